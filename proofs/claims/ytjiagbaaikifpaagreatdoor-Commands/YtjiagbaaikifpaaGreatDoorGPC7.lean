import Derived.Test.YtjiagbaaikifpaaGreatDoorGPS10
set_option maxRecDepth 100000
set_option maxHeartbeats 16000000
namespace Go.Proofs.YtjiagbaaikifpaaGreatDoor
open Go.RowKit Go.Proofs.Tryz
variable {W u w:World}{h:Ending}{i k m n:Nat}{o:Own}{v:Value}
theorem Fr.boxed {own:Own}{B c:Nat}(e:eD own w)(a:dB w W)(f:w.heap.size<=B)(g:B<W.heap.size):Fr own (dG own B c) n w W:=
 ⟨a.os,a.tape,a.output,a.size,λb d _=>a.block b d,λb d=>by unfold dG;rw[if_neg aR],λb d=>by unfold dG;rw[if_neg aR];exact e b (aP a.size)⟩
theorem Fr.unbox {own:Own}{B:Nat}(h:Fr own o n w W)(c:w.heap.size<=B):Fr own (dG o B 0) n w W:=
 ⟨h.os,h.tape,h.output,h.size,h.block,λb a=>by unfold dG;rw[if_neg aR];exact h.ext b a,λb a=>by unfold dG;split;rfl;exact h.fresh b a⟩
theorem dI.boxed {own:Own}{B c:Nat}{S:Doc.dO}(h:dI w own n m S)(a:dB w W)(e:w.heap.size<=B):dI W (dG own B c) n m S:=
 h.step (λb d _=>⟨a.block b d,by unfold dG;rw[if_neg aR]⟩)
theorem dI.unbox {own:Own}{B:Nat}{S:Doc.dO}(h:dI w own n m S)(b:own B≠0)(c:own B≠n):dI w (dG own B 0) n m S:=
 h.step (λd _ a=>⟨rfl,by unfold dG;rw[if_neg (by intro e;rw[e]at a;rcases a with h|h;exact b h;exact c h)]⟩)
theorem dI.wD {own:Own}{S:Doc.dO}(h:dI w own n m S)(b:own k≠0)(c:own k≠n):dI (w.setCell (dA k i) v) own n m S:=
 h.step (λd _ a=>⟨aD (by show d≠k;intro e;rw[e]at a;rcases a with h|h;exact b h;exact c h),rfl⟩)
def jP (w w':World)(own:Own)(k sb:Nat)(S:Doc.dO)(R:Except (Nat × Nat) (List Doc.Term × Nat))(e:Ending):Prop:=
 ∃own',Fr own own' k w w'/\match R with
  | .ok r=>e=dF (dM #[dw (r.2:Nat),.agg #[dw 0,dw 0]])/\dI w' own' k sb { S with terms:=r.1 }
  | .error x=>e=dF (dM #[dw 0,.agg #[dw (x.1:Nat),dw (x.2:Nat)]])/\x.1≠0/\∃ex,dI w' own' k sb { S with terms:=S.terms++ex }
theorem jP.lift {own:Own}{S:Doc.dO}{R:Except (Nat × Nat) (List Doc.Term × Nat)}(a:eD own w)(b:dB w W)(c:jP W u own n m S R h):jP w u own n m S R h:=by
 exact ap5
theorem yL {ts:List Doc.Term}{t:Doc.Term}{e:Nat}(h:Doc.note ts t=.error e):e=9:=by
 unfold Doc.note at h;split at h
 ·cases h
 ·split at h
  ·injection h with h;exact h.symm
  ·cases h
structure fF (w wx:World)(B:Nat):Prop where
 c0:wx.cell? (dA B 0)=some (dw 0)
 c1:wx.cell? (dA B 1)=some (dw 0)
 fr:∀j,wx.frozen? (dA B j)=false
theorem fF.fr' {own:Own}(h:fF w W n)(a:Fr own o m W u)(b:own n≠m):fF w u n:=
 ⟨a.cell h.c0 b,a.cell h.c1 b,λj=>(World.frozen?_of_block (w:=W) (a:=dA n j) (a.block n (aj h.c0) b)).trans (h.fr j)⟩
theorem eP {u0 u1:Value}(b:w.cell? (dA n 0)=some u0)(o:w.cell? (dA n 1)=some u1)(h i:Value) :
 ∃a,(w.setCell (dA n 0) h).setCell (dA n 1) i=a/\a.cell? (dA n 0)=some h/\a.cell? (dA n 1)=some i/\
  (∀(own d:Own) (k:Nat) (c:World),Fr own d k c w->c.heap.size<=n->Fr own d k c a)/\(∀(own:Own) (k e:Nat) (S:Doc.dO),dI w own k e S->own n≠0->own n≠k->dI a own k e S):=by
 have j:∀(f g:Nat),f≠g->((dA n f):Addr)≠(dA n g):=λf g p q=>p (by injection q);refine⟨_,rfl,?_,?_,λown d k c r l=>(r.setCell (p:=dA n 0) l _).setCell (p:=dA n 1) l _,λown k e S s b m=>(s.wD b m).wD b m⟩
 ·rw[ax (j 1 0 aR)];exact aC b
 ·exact aC ((ax (j 0 1 aR)).trans o)
theorem Nt (I a k q:Nat)(own:Own)(S:Doc.dO)(t:Doc.Term)(A:eu)(p:Nat)(w:World)(J:w.dQ I 0=some (dK a 0))(K:dI w own k a S)(L:eD own w)(hk:k≠0)(M:Doc.iB S.syms S.terms)(N:Doc.rU S.syms S.terms S.terms.length t)(O:eX w (.slice A t.args.length p) t.args)(hlen:t.args.length<=1000) :
 dH 238 #[dK I 0,.agg #[dw (Doc.eG t.op:Nat),dw t.sym,dw (Doc.fP t:Nat),.slice A t.args.length p,dw t.sort],dw q] w λf g=>jP w g own k a S (Doc.je q (Doc.note S.terms t)) f:=by
 have hol:=aj J;obtain⟨b,l⟩:∃b,(w.alloc (.cells #[dw (Doc.eG t.op:Nat),dw t.sym,dw (Doc.fP t:Nat),.slice A t.args.length p,dw t.sort] 226)).alloc (.cells #[dw 0,dw 0] 64)=b:=⟨_,rfl⟩;have h:dB w b:=by rw[<-l];exact ai.alloc aW _
 have hsz:b.heap.size=w.heap.size+1+1:=by rw[<-l];simp
 have y:∀m v z,((w.alloc (.cells #[dw (Doc.eG t.op:Nat),dw t.sym,dw (Doc.fP t:Nat),.slice A t.args.length p,dw t.sort] 226)).alloc (.cells #[dw 0,dw 0] 64)).dQ m v=some z->b.dQ m v=some z:=λm v z bg=>by rw[<-l];exact bg
 have b0:=y w.heap.size 0 (dw (Doc.eG t.op:Nat)) aW;have b1:=y w.heap.size 1 (dw t.sym) aW;have b2:=y w.heap.size 2 (dw (Doc.fP t:Nat)) aW;have b3:=y w.heap.size 3 (.slice A t.args.length p) aW;have b4:=y w.heap.size 4 (dw t.sort) aW;have P:fF w b (w.heap.size+1):=⟨y (w.heap.size+1) 0 _ aW,y (w.heap.size+1) 1 _ aW,λv=>by rw[<-l];simp⟩;have HB1:=dn h;have Q:Hid (Fr own (dG own (w.heap.size+1) (k+1)) k w b):=Fr.boxed L h aR aR;have R:dI b (dG own (w.heap.size+1) (k+1)) k a S:=K.boxed h (B:=w.heap.size+1) (c:=k+1) aR
 have HJ:Hid (∀W,dB b W->dH 275 #[dK a 0,.agg #[dw (Doc.eG t.op:Nat),dw t.sym,dw (Doc.fP t:Nat),.slice A t.args.length p,dw t.sort]] W λf g=>∃n:Int,f=dF (dw n)/\fF w g (w.heap.size+1)/\Em b g (dG own (w.heap.size+1) (k+1)) k a S (Doc.note S.terms t) (dF (dw n))):=λW x=>by
  have T:=Q.o.eH;refine(abw a k (dG own (w.heap.size+1) (k+1)) S t A p W (R.below x) (λm hb=>T m (Nat.le_trans x.size hb)) hk M N (O.below (h.trans (x.mono aR))) hlen).mono ?_;rintro f g ⟨i,h1,j⟩;have B:=(Fr.of_below k T x).trans h1;have d:fF w g (w.heap.size+1):=P.fr' B (by unfold dG;rw[if_pos rfl];omega);cases hR:Doc.note S.terms t with
  | ok r=>
   rw[hR]at j;exact⟨r.2,j.1,d,i,B,rfl,j.2⟩
  | error U=>
   rw[hR]at j;exact⟨-1,j.1,d,i,B,rfl,j.2⟩
 have mP:=dn (λf=>yL (ts:=S.terms) (t:=t) (e:=f));generalize Doc.note S.terms t=V at *;have o1:=h.dL J hol;generalize Doc.eG t.op=po at *;generalize Doc.fP t=pn at *;clear h K R L M N O y P;go_enter func238,ntmps238;go_upto_region 1 with fail
 clear l;go_cut [8] (fun bn X=>∃n:Int,bn=dw n/\fF w X (w.heap.size+1)/\Em b X (dG own (w.heap.size+1) (k+1)) k a S V (dF (dw n)))
 case first=>
  go_region_with (go_at_call 275;refine(HJ.o _ bY).mono ?_;rintro f w2 ⟨n,rfl,d,Y⟩)
  all_goals
   have HE1:=dn d;have HE2:=dn Y;clear d Y;go_wp2;go_meet
   ·exact⟨n,rfl,HE1.o,HE2.o⟩
 case rest=>
  obtain⟨n,rfl,d,i,C,Z⟩:=hcut;have c0:=d.c0;have c1:=d.c1;have cf:=d.fr;have HF:=dn (Q.o.trans C);have e:Hid (i (w.heap.size+1)=k+1):=by show _=_;rw[C.ext (w.heap.size+1) aR];unfold dG;rw[if_pos rfl]
  clear b0 b1 b2 b3 b4 o1 C d;cases V with
  | ok r=>
   obtain⟨c,o⟩:=Z;injection c with c
   injection c with _ c;subst c;obtain⟨D,hwz,E,F,s,u⟩:=eP c0 c1 (dw 0) (dw 0)
   have G:Hid (jP w D own k a S (.ok r) (dF (dM #[dw (r.2:Nat),.agg #[dw 0,dw 0]]))):=by
    have H:=u i k a _ o amL amL;exact⟨_,(s _ _ _ _ HF.o aR).unbox (B:=w.heap.size+1) aR,rfl,H.unbox amL amL⟩
   clear o s u;go_wp2;exact dR (dM #[dw (r.2:Nat),.agg #[dw 0,dw 0]]) (by simp[results,results238,go_sem,E,F]) rfl G.o
  | error U=>
   obtain⟨c,o⟩:=Z;injection c with c
   injection c with _ c;subst c;have h9:=mP.o U rfl;subst h9;obtain⟨D,hwz,E,F,s,u⟩:=eP c0 c1 (dw 9) (dw (q:Int))
   have G:Hid (jP w D own k a S (.error (9,q)) (dF (dM #[dw 0,.agg #[dw 9,dw (q:Int)]]))):=by
    have H:=u i k a _ o amL amL;exact⟨_,(s _ _ _ _ HF.o aR).unbox (B:=w.heap.size+1) aR,rfl,aW,[],by rw[List.append_nil];exact H.unbox amL amL⟩
   clear o s u;go_wp2;exact dR (dM #[dw 0,.agg #[dw 9,dw (q:Int)]]) (by simp[results,results238,go_sem,E,F]) rfl G.o
end Go.Proofs.YtjiagbaaikifpaaGreatDoor
namespace Doc
variable {g:List Sym}{q:List Term}{s:Str}
theorem WQ (b:List Sym)(a:List Term):leaf b a ou=note a ⟨ou,1,1,0,[]⟩:=by unfold leaf;rw[if_pos rfl]
theorem Tw (b:List Sym)(a:List Term):leaf b a lZ=note a ⟨lZ,2,1,0,[]⟩:=by unfold leaf;rw[if_neg aY,if_pos rfl]
theorem Z7 (a:s≠ou)(b:s≠lZ)(h:digits s=true):leaf g q s=note q ⟨s,14,2,0,[]⟩:=by unfold leaf;rw[if_neg a,if_neg b,if_pos h]
theorem Z6 (b:s≠ou)(c:s≠lZ)(h:digits s=false):leaf g q s=match gD g s with|none=>.error 5|some a=>if 0<(iD g a).length then .error 7 else note q ⟨s,13,iW g a,a,[]⟩:=by
 unfold leaf;rw[if_neg b,if_neg c,if_neg aom];rfl
end Doc
namespace Go.Proofs.YtjiagbaaikifpaaGreatDoor
open Go.RowKit Go.Proofs.Tryz
variable {U W u w:World}{h:Ending}{k m n:Nat}
theorem jP.three {own:Own}{S:Doc.dO}{R:Except (Nat × Nat) (List Doc.Term × Nat)}(b:jP w W own n m S R h):∃c d e:Nat,h=dF (dM #[dw (c:Int),.agg #[dw (d:Int),dw (e:Int)]]):=by
 obtain⟨_,_,a⟩:=b;cases R with
 | ok r=>exact⟨r.2,0,0,a.1⟩
 | error x=>exact⟨0,x.1,x.2,a.1⟩
theorem jP.fb {own:Own}{S:Doc.dO}{R:Except (Nat × Nat) (List Doc.Term × Nat)}(a:jP W u own n m S R h)(b:fF w W k)(c:own k≠n):fF w u k:=by
 obtain⟨_,d,_⟩:=a;exact b.fr' d c
theorem jP.fw {own:Own}{S:Doc.dO}{R:Except (Nat × Nat) (List Doc.Term × Nat)}(i:jP W u (dG own k (n+1)) n m S R h)(j:Fr own (dG own k (n+1)) n w W)(e:w.heap.size<=k)(l:k<W.heap.size)
 (o:∀(own a:Own) (n:Nat) (c:World),Fr own a n c u->c.heap.size<=k->Fr own a n c U) (p:∀(own:Own) (n m:Nat) (S:Doc.dO),dI u own n m S->own k≠0->own k≠n->dI U own n m S):jP w U own n m S R h:=by
 obtain⟨a,f,d⟩:=i;have x:a k=n+1:=anC;refine⟨dG a k 0,(o _ _ _ _ (j.trans f) e).unbox e,?_⟩;have g:∀b,dI u a n m b->dI U (dG a k 0) n m b:=λb q=>(p a n m b q aR aR).unbox aR aR;cases R with
 | ok y=>exact⟨d.1,g _ d.2⟩
 | error z=>
  obtain⟨r,s,t,v⟩:=d;exact⟨r,s,t,g _ v⟩
theorem jP.fault {own:Own}{a b:Nat}{S:Doc.dO}(d:Fr own (dG own k (n+1)) n w W)(g:dI W (dG own k (n+1)) n m S)(e:dB W u)(h:w.heap.size<=k)(i:k<W.heap.size)(j:a≠0)
 (l:∀(own f:Own) (n:Nat) (c:World),Fr own f n c u->c.heap.size<=k->Fr own f n c U) (o:∀(own:Own) (n m:Nat) (S:Doc.dO),dI u own n m S->own k≠0->own k≠n->dI U own n m S):jP w U own n m S (.error (a,b)) (dF (dM #[dw 0,.agg #[dw (a:Nat),dw (b:Nat)]])):=by
 have p:jP W u (dG own k (n+1)) n m S (.error (a,b)) (dF (dM #[dw 0,.agg #[dw (a:Nat),dw (b:Nat)]])):=⟨_,Fr.of_below n d.eH e,rfl,j,[],by rw[List.append_nil];exact g.below e⟩;exact p.fw d h i l o
theorem jP.drew {own:Own}{S:Doc.dO}{R:Except (Nat × Nat) (List Doc.Term × Nat)}(c:jP w W own n m S R h):jP w W.drew own n m S R h:=by
 obtain⟨d,e,a⟩:=c;have b:dB W W.drew:=af.drew;refine⟨d,e.drew,?_⟩;cases R with
 | ok r=>exact⟨a.1,a.2.below b⟩
 | error x=>
  obtain⟨f,g,i,j⟩:=a;exact⟨f,g,i,j.below b⟩
theorem fF.below (h:fF w W n)(a:dB W u):fF w u n:=by
 have b:=aj h.c0;exact⟨(a.dL h.c0 b),(a.dL h.c1 b),λj=>(a.gq (h.fr j) b)⟩
theorem Mc (l j k q fin:Nat)(own:Own)(S:Doc.dO)(x:dN)(w:World)(ho:w.dQ l 0=some (dK j 0))(O:dI w own k j S)(P:eD own w)(hk:k≠0)(I:Doc.iB S.syms S.terms)(hx:x.length<=1000000) :
 dH 235 #[dK l 0,.agg #[dw q,dD x,dw fin]] w λe i=>jP w i own k j S (Doc.je q (Doc.leaf S.syms S.terms x)) e:=by
 have hR:=gU;have hol:=aj ho;obtain⟨a,Q⟩:∃a,(w.alloc (.cells #[dw q,dD x,dw fin] 129)).alloc (.cells #[dw 0,dw 0] 64)=a:=⟨_,rfl⟩;have B:dB w a:=by rw[<-Q];exact ai.alloc aW _
 have hsz:a.heap.size=w.heap.size+1+1:=by rw[<-Q];simp
 have y:∀d bg bn,((w.alloc (.cells #[dw q,dD x,dw fin] 129)).alloc (.cells #[dw 0,dw 0] 64)).dQ d bg=some bn->a.dQ d bg=some bn:=λd bg bn m=>by rw[<-Q];exact m
 have b0:=y w.heap.size 0 (dw q) aW;have b1:=y w.heap.size 1 (dD x) aW;have R:fF w a (w.heap.size+1):=⟨y (w.heap.size+1) 0 _ aW,y (w.heap.size+1) 1 _ aW,λbg=>by rw[<-Q];simp⟩;have J:=dn R;have v:Hid (Fr own (dG own (w.heap.size+1) (k+1)) k w a):=Fr.boxed P B aR aR;have z:dI a (dG own (w.heap.size+1) (k+1)) k j S:=O.boxed B (B:=w.heap.size+1) (c:=k+1) aR;have nS:=dn z;have o1:=B.dL ho hol
 have A:Hid (∀t,t.args=[]->Doc.rU S.syms S.terms S.terms.length t->∀W,dB a W->dH 238 #[dK l 0,.agg #[dw (Doc.eG t.op:Nat),dw t.sym,dw (Doc.fP t:Nat),dE,dw t.sort],dw q] W λe i=>jP a i (dG own (w.heap.size+1) (k+1)) k j S (Doc.je q (Doc.note S.terms t)) e):=λt hta htw W hW=>by
  have m:=Nt l j k q (dG own (w.heap.size+1) (k+1)) S t none 0 W ((hW.dL o1 (by rw[hsz];show l<_;have:l<w.heap.size:=hol;omega))) (z.below hW) (λd hb=>v.o.eH d (Nat.le_trans hW.size hb)) hk I htw (by rw[hta];exact⟨none,0,rfl,aW,bz,by intro bB hi;simp at hi⟩) (by rw[hta];simp);rw[hta]at m;exact m.mono (λe i m=>m.lift v.o.eH hW)
 have Lb:Hid (dG own (w.heap.size+1) (k+1) (w.heap.size+1)≠k):=bT;have hlo:l<w.heap.size:=hol
 by_cases K:x=Doc.ou
 ·subst K;rw[Doc.WQ];have T:Hid (∀W,dB a W->dH 238 #[dK l 0,.agg #[dw 1,dw 0,dw 0,dE,dw 1],dw q] W λe i=>jP a i (dG own (w.heap.size+1) (k+1)) k j S (Doc.je q (Doc.note S.terms ⟨Doc.ou,1,1,0,[]⟩)) e):=A.o ⟨Doc.ou,1,1,0,[]⟩ rfl ⟨aoj,rfl,.bool (.inl rfl) rfl rfl rfl⟩;clear B O z P I y R A;go_enter func235,ntmps235;exact apw
 ·by_cases M:x=Doc.lZ
  ·subst M;rw[Doc.Tw];have T:Hid (∀W,dB a W->dH 238 #[dK l 0,.agg #[dw 2,dw 0,dw 0,dE,dw 1],dw q] W λe i=>jP a i (dG own (w.heap.size+1) (k+1)) k j S (Doc.je q (Doc.note S.terms ⟨Doc.lZ,2,1,0,[]⟩)) e):=A.o ⟨Doc.lZ,2,1,0,[]⟩ rfl ⟨aoj,rfl,.bool (.inr rfl) rfl rfl rfl⟩;clear B O z P I y R A;go_enter func235,ntmps235;exact apw
  ·have t1:(x==[116,114,117,101])=false:=ak K;have t2:(x==[102,97,108,115,101])=false:=ak M;have HN:=dn (FL x a hx);cases hd:Doc.digits x with
   | true=>
    rw[Doc.Z7 K M hd]
    have T:Hid (∀W,dB a W->dH 238 #[dK l 0,.agg #[dw 3,dw 0,dw (numOf x:Nat),dE,dw 2],dw q] W λe i=>jP a i (dG own (w.heap.size+1) (k+1)) k j S (Doc.je q (Doc.note S.terms ⟨x,14,2,0,[]⟩)) e):=by
     have m:=A.o ⟨x,14,2,0,[]⟩ rfl ⟨aoj,by simp[Doc.written,Doc.nameOf],.num rfl rfl rfl rfl hd⟩;have X:Doc.fP ⟨x,14,2,0,[]⟩=numOf x:=by rw[zJ hd];rfl
     rw[X]at m;exact m
    rw[hd]at HN;clear B O z P I y R A K M hd;generalize numOf x=nx at *;go_enter func235,ntmps235;go_wp2_with fail;refine HN.o.mono ?_;rintro e w3 ⟨rfl,rfl⟩;exact apw
   | false=>
    rw[Doc.Z6 K M hd];have wT:Hid (∀W,dB a W->dH 123 #[dK j 0,dD x] W λe i=>e=dF (dw (placeOf (Doc.gD S.syms x)))/\dB W i):=λW m=>GJ j S.syms S.terms x W (z.book.below m);rw[hd]at HN;have Ew:=dn (λs=>Doc.nK (ss:=S.syms) (w:=x) (s:=s));have akd:=dn z.book;have KZ:=dn I;clear B O z P I y R K M hd;have K3:Hid (placeOf none=-1/\∀s,placeOf (some s)=(s:Int)):=⟨rfl,λ_=>rfl⟩;obtain⟨Y,hrr⟩:=aK (Doc.gD S.syms x);rw[hrr]at wT ⊢;have HRR:=dn hrr;clear hrr;obtain⟨bq,Oc⟩:∃bq,Doc.je q (match Y with|none=>.error 5|some s=>if 0<(Doc.iD S.syms s).length then .error 7 else Doc.note S.terms ⟨x,13,Doc.iW S.syms s,s,[]⟩)=bq:=⟨_,rfl⟩;rw[Oc];have uR:=dn Oc;clear Oc;go_enter func235,ntmps235;go_wp2_with fail;refine HN.o.dX λw3 hw3=>?_;rw[hw3];clear hw3 w3;go_upto_region 8 with fail;clear Q;go_cut [8] (fun bA wx=>bA=dw (placeOf Y)/\dB a wx)
    case first=>
     go_region_with (go_at_call 123;refine(wT.o _ bY).mono ?_;rintro e w4 ⟨rfl,G⟩)
     all_goals
      have HE:Hid (dB a w4):=af.drew.trans G;clear G;go_wp2;go_meet
      ·exact⟨rfl,HE.o⟩
    case rest=>
     obtain⟨rfl,H⟩:=hcut;have zt:=dn H;have b0c:=H.dL b0 aZ;have o1c:=H.dL o1 (by show l<_;omega);cases Y with
     | none=>
      rw[K3.o.1];have hsc:=H.size;clear o1c o1 b1 wT H;go_wp2_with fail;have r:dB a wc:=zt.o;have u:=J.o.below r;have b0d:=r.dL b0 aZ;have d0:=u.c0;have d1:=u.c1;have df:=u.fr;obtain⟨U,V,n,o,f,g⟩:=eP d0 d1 (dw 5) (dw (q:Int));have p:=dn (jP.fault (a:=5) (b:=q) v.o nS.o r aR aR aR f g).drew;clear f g r u;go_region
      all_goals
       go_wp2;exact dR (dM #[dw 0,.agg #[dw 5,dw (q:Int)]]) amb rfl (by rw[<-uR.o];exact p.o)
     | some s=>
      rw[K3.o.2];obtain⟨Z,hsn⟩:=Ew.o s HRR.o;obtain⟨aA,mY,hints,hsy⟩:=xY j S.syms S.terms s a akd.o Z;have IZ:=dn (hsy wc H);obtain⟨_,m1,m2⟩:=iM hints;have X:=BQ Z;have e2:=GX Z;have N:Hid (Doc.je q (if 0<S.syms[s].args.length then .error 7 else Doc.note S.terms ⟨x,13,S.syms[s].sort,s,[]⟩)=bq):=by show _=_;rw[<-uR.o];simp only[X,e2]
      have HJ2:Hid (S.syms[s].args.length=0->∀W,dB a W->dH 238 #[dK l 0,.agg #[dw 4,dw (s:Int),dw 0,dE,dw (S.syms[s].sort:Int)],dw q] W λe i=>jP a i (dG own (w.heap.size+1) (k+1)) k j S (Doc.je q (Doc.note S.terms ⟨x,13,S.syms[s].sort,s,[]⟩)) e):=λh0=>
       A.o ⟨x,13,S.syms[s].sort,s,[]⟩ rfl ⟨aoj,by simp[Doc.written,Doc.nameOf,Doc.qP Z,hsn],.app rfl Z (by rw[X];simp only[List.map_nil];exact(List.eq_nil_of_length_eq_zero h0).symm) e2.symm⟩
      rw[hsn]at IZ;clear hsy hints H A Ew X e2 hsn;obtain⟨so,hso⟩:=aK (S.syms[s].sort);rw[hso]at IZ HJ2 N;obtain⟨L,hL⟩:=aK (S.syms[s].args.length);rw[hL]at IZ HJ2 m1 N;clear hso hL;have hsp:¬((s:Int)<0):=aR;go_wp2_with fail;refine IZ.o.dX λw4 G=>?_;have hb5:dB a (w4.alloc (.cells #[dD x,.slice aA L mY,dw so] 197)):=(zt.o.dW G).alloc (Nat.le_trans zt.o.size G.size) _;have BI:=dn hb5;have b0e:=hb5.dL b0 aZ;have hs4:=G.size;have hs5:=zt.o.size;clear G hb5
      by_cases hL0:0<L
      ·rw[if_pos hL0]at N;have tl:(0:Int)<(L:Int):=aR;clear hL0;go_upto_region 13 with fail;generalize w4.alloc (.cells #[dD x,.slice aA L mY,dw so] 197)=wa at *;have r:dB a wa:=BI.o;have u:=J.o.below r;have b0d:=r.dL b0 aZ;have d0:=u.c0;have d1:=u.c1;have df:=u.fr;obtain⟨U,V,n,o,f,g⟩:=eP d0 d1 (dw 7) (dw (q:Int));have p:=dn (jP.fault (a:=7) (b:=q) v.o nS.o r aR aR aR f g).drew;clear f g r u;go_region
       all_goals
        go_wp2;exact dR (dM #[dw 0,.agg #[dw 7,dw (q:Int)]]) amb rfl (by rw[<-N.o];exact p.o)
      ·rw[if_neg hL0]at N;have afA:L=0:=aR;have HJ3:=dn (HJ2.o afA _ BI.o);subst afA;clear hL0 HJ2;go_wp2_with fail;refine HJ3.o.mono ?_;rintro e w5 b;obtain⟨D,h,d,rfl⟩:=b.three;have c:=b.fb J.o Lb.o;have E:=c.c0;have F:=c.c1;have cf:=c.fr;obtain⟨U,V,n,o,f,g⟩:=eP E F (dw (h:Int)) (dw (d:Int));have p:=dn (b.fw v.o aR aR f g);clear b c f g;go_wp2;exact dR (dM #[dw (D:Int),.agg #[dw (h:Int),dw (d:Int)]]) amb rfl (by rw[<-N.o];exact p.o)
end Go.Proofs.YtjiagbaaikifpaaGreatDoor
namespace Doc
variable {m n:Nat}{s:Str}
def within:Nat->Tr->Prop
 | _,.word _ _=>True
 | 0,.list _ _=>False
 | n+1,.list _ ks=>∀k∈ks,within n k
theorem Hl {one:Nat->uB}(d:∀i k j,one i=.ok k j->within m k):∀(f i:Nat) (b:List Tr) (t:Tr) (j:Nat),(∀k∈b,within m k)->fQ one s n f i b=.ok t j->within (m+1) t:=by
 intro f
 induction f with
 | zero=>intro i b t j _ h;cases h
 | succ f e=>
  intro i b t j c h;unfold fQ at h;split at h
  ·cases h
  ·split at h
   ·injection h with g o;subst g;exact c
   ·split at h
    ·cases h
    ·split at h
     ·cases h
     ·rename_i k p l;refine e _ _ _ _ ?_ h;intro x a;rcases List.mem_append.1 a with a|a
      ·exact c x a
      ·rw[List.mem_singleton.1 a];exact d _ _ _ l
theorem Qc (l:Str):∀(n i:Nat) (t:Tr) (j:Nat),tree l n i=.ok t j->within n t:=by
 intro n
 induction n with
 | zero=>
  intro i t j h;unfold tree at h;split at h
  ·cases h
  ·injection h with a b;subst a
   trivial
 | succ n c=>
  intro i t j h;unfold tree at h;split at h
  ·exact Hl (λi k j h=>c i k j h) _ _ _ _ _ (by intro k d;cases d) h
  ·injection h with a b;subst a
   trivial
theorem ML {t:Tr}(h:parse s=.ok t):within 12 t:=by
 unfold parse at h;split at h
 ·split at h
  ·cases h
  ·rename_i b j a;split at h
   ·cases h
   ·injection h with h;subst h;exact Qc s 12 _ _ _ a
 ·cases h
end Doc
namespace Go.Proofs.YtjiagbaaikifpaaGreatDoor
open Go.RowKit Go.Proofs.Tryz
variable {I:List Doc.Item}{K l:List Nat}{O o:Own}{V v:Value}{W w:World}{a:eu}{i k m n:Nat}
def tH (w:World)(own:Own)(v:Value)(its:List Doc.Item):Prop:=gu v its.length (λg i=>own g=0/\∀h:i<its.length,uD w g (i*3) its[i])
theorem tH.items {own:Own}(h:tH w own v I):vO w v I:=gu.imp h λ_ _ _ a=>a.2
theorem uD.of_block {o:Nat}{t:Doc.Item}(h:uD w n o t)(a:W.heap[n]?=w.heap[n]?):uD W n o t:=
 ⟨(World.cell?_of_block (w:=w) (a:=dA n o) a).trans h.pos,(World.cell?_of_block (w:=w) (a:=dA n (o+1)) a).trans h.word,(World.cell?_of_block (w:=w) (a:=dA n (o+2)) a).trans h.fin⟩
theorem tH.step {w:World}{own:Own}(d:∀b,b<w.heap.size->own b=0->W.heap[b]?=w.heap[b]?/\o b=0){v:Value}{c:List Doc.Item}(h:tH w own v c):tH W o v c:=
 gu.imp h λg i hi a=>by
  obtain⟨e,f⟩:=d g (aj (a.2 hi).pos) a.1;exact⟨f,λhi=>(a.2 hi).of_block e⟩
structure jT (w:World)(own:Own)(ob sb:Nat)(its:List Doc.Item):Prop where
 st:w.cell? (dA ob 0)=some (dK sb 0)
 items:∃v,w.cell? (dA ob 1)=some v/\tH w own v its
 ZG:own ob=0
 jq:gZ w
 g0:∀b,b<2->own b=0
theorem gZ.size (h:gZ w):2<=w.heap.size:=by
 have a:=h.tab;unfold Lib.TabIs World.var? at a;rw[Tryz.JF]at a;simp only[Option.bind_some]at a;rcases Nat.lt_or_ge 1 w.heap.size with b|b
 ·exact b
 ·rw[Array.getElem?_eq_none b]at a;cases a
theorem jT.lt {own:Own}(h:jT w own n m I):n<w.heap.size:=aj h.st
theorem jT.step {w:World}{own:Own}(h:jT w own n m I)(a:∀b,b<w.heap.size->own b=0->W.heap[b]?=w.heap[b]?/\o b=0):jT W o n m I:=by
 obtain⟨d,e⟩:=a n h.lt h.ZG;obtain⟨v,f,g⟩:=h.items;exact⟨(World.cell?_of_block (w:=w) (a:=dA n 0) d).trans h.st,⟨v,(World.cell?_of_block (w:=w) (a:=dA n 1) d).trans f,g.step a⟩,e,h.jq.fT (λb c i=>(a b i (h.g0 b c)).1),λb c=>(a b (aP h.jq.size) (h.g0 b c)).2⟩
theorem jT.below {own:Own}(h:jT w own n m I)(a:dB w W):jT W own n m I:=h.step (λb c d=>⟨a.block b c,d⟩)
theorem jT.fr {own:Own}(h:jT w own n m I)(a:Fr own o k w W)(e:k≠0):jT W o n m I:=h.step (λb c d=>⟨a.block b c aR,by rw[a.ext b c];exact d⟩)
theorem jT.boxed {own:Own}{B c:Nat}(h:jT w own n m I)(a:dB w W)(f:w.heap.size<=B):jT W (dG own B c) n m I:=
 h.step (λb d e=>⟨a.block b d,by unfold dG;rw[if_neg aR];exact e⟩)
theorem fG.boxed {own:Own}{B c:Nat}(h:fG w own v l)(a:dB w W)(f:w.heap.size<=B):fG W (dG own B c) v l:=
 h.step (λb d e=>⟨a.block b d,by unfold dG;rw[if_neg aR];exact e⟩)
structure ma (w wr:World)(own wZ:Own)(k sb ob:Nat)(its:List Doc.Item)(vi:Value)(ins:List Nat)(S:Doc.dO)(ts:List Doc.Term)(v:Value)(acc:List Nat):Prop where
 fr:Fr own wZ k w wr
 stack:dI wr wZ k sb { S with terms:=ts }
 row:wr.ownsRow (w.heap.size+1) 3 1 v acc.length (ja acc)
 mine:∀b,v.ownBlock=some b->wZ b=k+1
 box:fF w wr w.heap.size
 JN:wZ w.heap.size=k+1
 ord:jT wr wZ ob sb its
 ins:fG wr wZ vi ins
 wf:Doc.iB S.syms ts
 lt:∀a∈acc,a<ts.length
 ext:∃ex,ts=S.terms++ex
 size:w.heap.size<wr.heap.size
theorem ma.start {w:World}{own:Own}{k sb:Nat}{S:Doc.dO}(c:dI w own k sb S)(d:eD own w)(e:jT w own n sb I)(hi:fG w own v l)(f:Doc.iB S.syms S.terms) :
 ma w (w.alloc (.cells #[dw 0,dw 0] 64)) own (dG own w.heap.size (k+1)) k sb n I v l S S.terms (dE) []:=by
 have b:dB w (w.alloc (.cells #[dw 0,dw 0] 64)):=ai;refine⟨Fr.boxed d b ae aW,c.boxed b ae,World.ownsRow_nil _ _ _ _,(by intro h b;simp[Value.ownBlock]at b),⟨aW,aW,λj=>aW⟩,amQ,e.boxed b ae,hi.boxed b ae,f,(by intro a g;cases g),⟨[],aW⟩,aW⟩
theorem ma.after {wr:World}{own:Own}{S:Doc.dO}{f c:List Doc.Term}(h:ma w wr own o n m k I v l S f V K)(g:n≠0)(a:Fr o O n wr W)(i:dI W O n m { S with terms:=c })(j:Doc.iB S.syms c)(p:∃e,c=f++e) :
 ma w W own O n m k I v l S c V K:=by
 obtain⟨e,rfl⟩:=p;obtain⟨q,r⟩:=h.ext;refine⟨h.fr.trans a,i,a.owns h.row (λb d=>by rw[h.mine b d];omega),λb d=>?_,h.box.fr' a (by rw[h.JN];omega),?_,h.ord.fr a g,h.ins.fr a g,j,λs t=>by have:=h.lt s t;simp;omega,⟨q++e,by rw[r];simp⟩,Nat.lt_of_lt_of_le h.size a.size⟩
 ·rw[a.ext b (h.row.lt b d).2];exact h.mine b d
 ·rw[a.ext _ h.size];exact h.JN
theorem ma.below {wr:World}{own:Own}{S:Doc.dO}{a:List Doc.Term}(h:ma w wr own o n m k I v l S a V K)(c:n≠0)(b:dB wr W):ma w W own o n m k I v l S a V K:=
 h.after c (Fr.of_below n h.fr.eH b) (h.stack.below b) h.wf ⟨[],aW⟩
theorem ma.snoc {w wr o f:World}{own i:Own}{k s t:Nat}{u:List Doc.Item}{x:Value}{y:List Nat}{S:Doc.dO}{p:List Doc.Term}{v:Value}{j:List Nat}(h:ma w wr own i k s t u x y S p v j){a:Nat}(E:a<p.length)(l:dB wr o){g cap:Nat}
 (z:f.ownsRow (w.heap.size+1) 3 1 (dJ g (j.length+1) cap) (j.length+1) (ja j++[dw (a:Int)])) (m:o.grownBy f v.ownBlock) (H:w.heap.size+1<=g) (F:v.ownBlock=some g\/o.heap.size<=g) :
 ma w f own (dG i g (k+1)) k s t u x y S p (dJ g (j.length+1) cap) (j++[a]):=by
 have I:=l.size;have J:=m.size;have q:∀b,b<wr.heap.size->v.ownBlock≠some b->f.heap[b]?=wr.heap[b]?:=λb c n=>(m.block b aR (λe=>n e.symm)).trans (l.block b c)
 have A:∀b,b<wr.heap.size->i b≠k+1->f.heap[b]?=wr.heap[b]?/\dG i g (k+1) b=i b:=λb c d=>by
  have n:v.ownBlock≠some b:=λe=>d (h.mine b e);refine⟨q b c n,?_⟩;unfold dG;rw[if_neg];intro e;rcases F with B|B
  ·rw[e]at n;exact n B
  ·exact aR
 have K:g<f.heap.size:=(z.lt g rfl).2;have r:f.heap[w.heap.size]?=wr.heap[w.heap.size]?:=q _ h.size (λe=>aP ((h.row.lt _ e).1))
 have C:∀b,b<wr.heap.size->i b=0->f.heap[b]?=wr.heap[b]?/\dG i g (k+1) b=0:=λb c d=>by
  have:=A b c aR;exact⟨this.1,by rw[this.2];exact d⟩
 refine⟨⟨?_,?_,?_,?_,?_,?_,?_⟩,?_,?_,?_,?_,?_,h.ord.step C,h.ins.step C,h.wf,?_,h.ext,?_⟩
 ·exact(m.os.trans l.os).trans h.fr.os
 ·exact(m.tape.trans l.tape).trans h.fr.tape
 ·exact(m.output.trans l.output).trans h.fr.output
 ·have:=h.fr.size;exact aR
 ·intro b c d;have G:b<wr.heap.size:=Nat.lt_of_lt_of_le c h.fr.size;exact(q b G (λe=>aP ((h.row.lt b e).1))).trans (h.fr.block b c d)
 ·intro b c;unfold dG;rw[if_neg aR];exact h.fr.ext b c
 ·intro b c;unfold dG;rw[if_neg aR];exact h.fr.fresh b aR
 ·exact h.stack.step (λb c d=>A b c (by rcases d with d|d<;>rw[d]<;>omega))
 ·rw[G9,List.length_append];exact z
 ·intro b c;have:g=b:=aoq;subst this;exact amQ
 ·exact⟨(World.cell?_of_block (w:=wr) (a:=dA w.heap.size 0) r).trans h.box.c0,(World.cell?_of_block (w:=wr) (a:=dA w.heap.size 1) r).trans h.box.c1,λD=>(World.frozen?_of_block (w:=wr) (a:=dA w.heap.size D) r).trans (h.box.fr D)⟩
 ·unfold dG;rw[if_neg aR];exact h.JN
 ·intro b c;rcases List.mem_append.1 c with c|c
  ·exact h.lt b c
  ·rw[List.mem_singleton.1 c];exact E
 ·exact aR
def PAP (w w':World)(own:Own)(k sb:Nat)(S:Doc.dO)(R:Except (Nat × Nat) (List Doc.Term × List Nat))(e:Ending):Prop:=
 ∃own',Fr own own' k w w'/\match R with
  | .ok r=>(∃A p,e=dF (dM #[.slice A r.2.length p,.agg #[dw 0,dw 0]])/\fG w' own' (.slice A r.2.length p) r.2)/\dI w' own' k sb { S with terms:=r.1 }/\Doc.iB S.syms r.1/\(∀a∈r.2,a<r.1.length)/\(∃ex,r.1=S.terms++ex)/\r.2.length<=1000
  | .error x=>e=dF (dM #[dE,.agg #[dw (x.1:Nat),dw (x.2:Nat)]])/\x.1≠0/\∃ex,dI w' own' k sb { S with terms:=S.terms++ex }
theorem We (w:World)(B:Nat)(c d:Value):∀b,b≠B->((w.setCell (dA B 0) c).setCell (dA B 1) d).heap[b]?=w.heap[b]?:=λb a=>by
 rw[aD a,aD a]
theorem ma.done {wr:World}{own:Own}{S:Doc.dO}{s:List Doc.Term}(h:ma w wr own o n m k I v l S s (.slice a K.length i) K)
 (C:∀(own t:Own) (n:Nat) (q:World),Fr own t n q wr->q.heap.size<=w.heap.size->Fr own t n q W) (u:∀b,b≠w.heap.size->W.heap[b]?=wr.heap[b]?) (D:K.length<=1000):PAP w W own n m S (.ok (s,K)) (dF (dM #[.slice a K.length i,.agg #[dw 0,dw 0]])):=by
 have c:=C _ _ _ _ h.fr ae;obtain⟨f,g⟩:∃f:Own,f=λb=>if (Value.slice a K.length i).ownBlock=some b\/b=w.heap.size then 0 else o b:=⟨_,rfl⟩
 have x:∀b,o b=0\/o b=n->b≠w.heap.size/\f b=o b:=λb j=>by
  have y:b≠w.heap.size:=λe=>by rw[e,h.JN]at j;omega
  refine⟨y,?_⟩;rw[g];simp only;rw[if_neg];rintro (e|e)
  ·have:=h.mine b e;exact aR
  ·exact y e
 refine⟨f,⟨c.os,c.tape,c.output,c.size,c.block,?_,?_⟩,⟨a,i,rfl,?_⟩,h.stack.step (λb _ j=>⟨u b (x b j).1,(x b j).2⟩),h.wf,h.lt,h.ext,D⟩
 ·intro b p;rw[g];simp only;rw[if_neg]
  ·exact h.fr.ext b p
  ·rintro (e|e)
   ·have:=(h.row.lt b e).1;exact aR
   ·exact aR
 ·intro b p;rw[g];simp only;split
  ·rfl
  ·exact c.fresh b p
 ·have z:=h.row;rw[<-DK]at z;have E:=yj z aW (by intro P F;obtain⟨Q,_,rfl⟩:=List.mem_map.1 F;rfl);obtain⟨R,T,G,H,J,L⟩:=E;injection G with M _ N
  subst M N;refine⟨a,i,rfl,H,J,λd hi=>?_⟩;obtain⟨r,A,p,O⟩:=L d hi;refine⟨r,A,?_,λU=>?_⟩
  ·rw[g];simp only;rw[if_pos (.inl (by rw[A];rfl))]
  ·have B:=O di 0 aR (dw (K[d]:Int)) aW;rw[show d*1+0=d by omega]at B;exact(World.cell?_of_block (w:=wr) (a:=dA r d) (u r aR)).trans B
theorem LH (s e k i n p0:Nat)(u:List Doc.Item)(own:Own)(S:Doc.dO)(a:List Doc.Tr)(G:eu)(H:Nat)(w:World)(Y:jT w own s e u)(Z:dI w own k e S)(hfr:eD own w)(hk:k≠0)(hw:Doc.iB S.syms S.terms)(I:fG w own (.slice G a.length H) (Doc.places a (n+1)))(hlies:Doc.mg u n (.list p0 a))(hok:Doc.oks a)(hwd:Doc.fE a<=800)(h1:1<=a.length)(hn:a.length<=1000)
 (ih:∀(t:Doc.Tr) (bt:Nat) (own:Own) (S:Doc.dO) (w:World),t∈a->jT w own s e u->dI w own k e S->eD own w->Doc.iB S.syms S.terms->Doc.mg u bt t->t.ok->t.width<=800->
  dH 178 #[dK s 0,dw (bt:Nat)] w λy J=>jP w J own k e S (Doc.term S.syms i t S.terms) y) :
 dH 236 #[dK s 0,.slice G a.length H] w λy J=>PAP w J own k e S (Doc.iN (Doc.term S.syms i) (a.drop 1) S.terms []) y:=by
 obtain⟨i0,hi,hz0,hz1,hz2⟩:=info_parts nk;have zl:=dn (ma.start (k:=k) Z hfr Y I hw);obtain⟨rH,k1,k2⟩:=iM I.ints;clear rH;have oP:=dn (Doc.mG hok);have UW:=dn (λt h=>Nat.le_trans (Doc.kH (ks:=a) t h) hwd);have K8:=dn ih;have LY:=dn (λz (h:z<a.length)=>hlies.kid h);have Yv:=dn (λz (h:z<a.length)=>Doc.mJ (ks:=a) (b:=n+1) (n:=z) h);have hpl:=Doc.BZ a (n+1);rw[hpl]at k1;obtain⟨p,K⟩:=aK (Doc.iN (Doc.term S.syms i) (a.drop 1) S.terms []);rw[K];have HRA:=dn K;clear K Y Z hfr hw I hlies hok hwd ih hpl;go_enter func236,ntmps236;go_wp2_with fail
 go_loopw [6,7] (fun bg L wr=>∃(j:Nat) (c:List Nat) (l:List Doc.Term) (M:Own),L=dw j/\1<=j/\j<=a.length/\c.length<=j/\ma w wr own M k e s u (.slice G a.length H) (Doc.places a (n+1)) S l bg c/\Doc.iN (Doc.term S.syms i) (a.drop j) l c=p) (fun _ L _=>a.length-(intOf L).toNat)
 ·exact⟨1,[],S.terms,_,rfl,aR,h1,aW,zl.o,HRA.o⟩
 case round=>
  obtain⟨j,c,l,M,rfl,hj1,hj2,hacc,b,hloop⟩:=hrel;have m:=dn b;have N:=dn hloop;obtain⟨av,Ay,rfl,hv1,hv2⟩:=ik b.row;clear hloop
  by_cases O:j<a.length
  ·have Df:=Yv.o j O;obtain⟨bn,rfl,d1⟩:=gF b.ins.ints j _ Df;have A:a[j]∈a:=aW;have P:=oP.o a[j] A;have TL:=UW.o a[j] A;have Pz:=dn (K8.o a[j] (Doc.start a (n+1) j) M { S with terms:=l } wr A b.ord b.stack b.fr.eH b.wf (LY.o j O) P aR);have CY:=dn (λr=>Doc.uW S.syms i a[j] l r b.wf P aR);have rW:=dn (Doc.xg (one:=Doc.term S.syms i) O l c);generalize Doc.start a (n+1) j=bj at *;clear b Df A P;generalize a[j]=tj at *;go_wp2_with fail;refine Pz.o.mono ?_;rintro y d ⟨Ce,o,B⟩;cases hT:Doc.term S.syms i tj l with
   | error Q=>
    simp only[hT]at B;obtain⟨rfl,hne,ex,v⟩:=B;have hen:((Q.1:Int) !=0)=true:=bJ;have HRR:Hid (p=.error Q):=by show _=_;rw[<-N.o,rW.o,hT]
    have hsz2:=Nat.lt_of_lt_of_le m.o.size o.size;have hbx:=m.o.box.fr' o (by rw[m.o.JN];omega);have hbo:Ce w.heap.size=k+1:=by rw[o.ext _ m.o.size];exact m.o.JN
    have C:=dn hbo;have ry:=dn o;have lq:=dn v;obtain⟨f,g⟩:=Q;simp only at hen hne;clear hT o v hbo;go_upto_region 7 with fail
    have q:dB d (d.alloc (.cells #[dw (f:Nat),dw (g:Nat)] 64)):=ai;have f0:(d.alloc (.cells #[dw (f:Nat),dw (g:Nat)] 64)).dQ d.heap.size 0=some (dw (f:Nat)):=aW;have f1:(d.alloc (.cells #[dw (f:Nat),dw (g:Nat)] 64)).dQ d.heap.size 1=some (dw (g:Nat)):=aW;have D:=hbx.below q;have uL:=dn q;clear q;generalize d.alloc (.cells #[dw (f:Nat),dw (g:Nat)] 64)=wa at *;have R:=D.c0;have T:=D.c1;have cf:=D.fr;obtain⟨wz,hwz,U,V,x,E⟩:=eP R T (dw (f:Int)) (dw (g:Int))
    have W:Hid (PAP w wz.drew own k e S (.error (f,g)) (dF (dM #[dE,.agg #[dw (f:Nat),dw (g:Nat)]]))):=by
     obtain⟨Xt,NY⟩:=m.o.ext;have hs:=(E Ce k e _ (lq.o.below uL.o) aoS aoS).unbox aoS aoS;have hf:=((x _ _ _ _ ((m.o.fr.trans ry.o).trans (Fr.of_below k ry.o.eH uL.o)) ae).unbox (B:=w.heap.size) ae).drew;refine⟨_,hf,rfl,hne,Xt++ex,?_⟩;have h:=hs.below af.drew;simp only[NY,List.append_assoc]at h;exact h
    clear x E hbx D;go_region
    all_goals
     go_wp2;exact dR (dM #[dE,.agg #[dw (f:Nat),dw (g:Nat)]]) (by simp[results,results236,go_sem,U,V]) rfl (by rw[HRR.o];exact W.o)
   | ok r=>
    simp only[hT]at B;obtain⟨rfl,v⟩:=B;have F:=CY.o r hT;have q:dB d (d.alloc (.cells #[dw 0,dw 0] 64)):=ai;have X:=dn ((m.o.after hk o v F.wf F.ext).below hk q);have qI:=dn F.lt;have jF:Hid (Doc.iN (Doc.term S.syms i) (a.drop (j+1)) r.1 (c++[r.2])=p):=by have h:=N.o;rw[rW.o,hT]at h;exact h
    have mh:=dn X.o.row;have hal:c.length<=1000:=aR;have Gl:=X.o.size;simp only[World.size_alloc]at Gl;clear hT o v F q;go_wp2_with (at_builtin;refine dU rfl (.tmp 29) (.tmp 31) 57 rfl (w.heap.size+1) 3 i0 (dw 0) 1 8 underlying57 hi hz0 hz1 hz2 rfl aY (.slice av c.length Ay) c.length (ja c) rfl an7 (dA (d.heap.size+1) 0) 1 [dw (r.2:Int)] rfl rfl (by exact vG _ _ _ _ aW) bX bz aR aX ?_;intro ga fD w3 hown' hgrow hg1 hg2);have mO:=dn (X.o.snoc qI.o ai hown' hgrow hg1 hg2);clear hown' hgrow hg1 hg2;go_wp2;go_roundw
    ·exact⟨j+1,c++[r.2],r.1,_,bL,aR,aR,aX,mO.o,jF.o⟩
    ·exact aph
  ·have Ps:Hid (p=.ok (l,c)):=by
    show _=_;rw[<-N.o,List.drop_eq_nil_of_le aR];rfl
   have R:=b.box.c0;have T:=b.box.c1;have cf:=b.box.fr;obtain⟨wz,hwz,U,V,x,E⟩:=eP R T (dw 0) (dw 0);have W:=dn (b.done x (by rw[<-hwz];exact We _ _ _ _) aR);clear x E b;go_wp2;exact dR (dM #[.slice av c.length Ay,.agg #[dw 0,dw 0]]) (by simp[results,results236,go_sem,U,V]) rfl (by rw[Ps.o];exact W.o)
end Go.Proofs.YtjiagbaaikifpaaGreatDoor
namespace Doc
variable {g:List Sym}{l:List Nat}{m n:Nat}{q:List Term}
theorem Xm:∀f∈forms,f.sort=0\/f.sort=1\/f.sort=2:=aY
theorem D9 {f:Form}(b:f∈forms){c:List Nat}{s:Nat}(h:fits q f c=some s)(d:∀a∈c,dY q a=1\/dY q a=2\/dY q a=3):s=1\/s=2\/s=3:=by
 have g:=jO h;have e:=nX f b;unfold fits at h;split at h
 ·cases h
 ·split at h
  ·cases h
  ·split at h
   ·cases h
   ·split at h
    ·cases h
    ·split at h
     ·injection h with h;subst h;unfold Form.want;split
      ·exact d _ (qC aR)
      ·have:f.args<=2:=e.2.2.2;exact aR
     ·injection h with h;subst h;have:=Xm f b;exact aR
theorem Q4 (h:iB g q):∀(k:Nat),k<q.length->dY q k=1\/dY q k=2\/dY q k=3:=by
 intro k
 induction k using Nat.strongRecOn with
 | ind k i=>
  intro d;have b:=h.terms k d;have j:dY q k=q[k].sort:=by unfold dY;rw[aF d]
  rw[j];rcases b.made with ⟨_,_,a,_⟩|⟨_,_,a,_,_⟩|⟨_,e,_,a⟩|⟨n,l,_,_,m,_,_⟩
  ·exact .inl a
  ·exact .inr (.inl a)
  ·rw[a];unfold iW;rw[aF e];exact(h.syms _ (List.getElem_mem e)).sort
  ·exact D9 l m (λc f=>i c (b.args c f) (aP (b.args c f)))
theorem S9 {e:Type}(a:Term->Except Nat e)(b:List Term)(c:Nat)(d:List Nat):jI a b c d=match jI Except.ok b c d with|.error f=>.error f|.ok t=>a t:=by
 unfold jI;split
 ·rfl
 ·split
  ·split
   ·rfl
   ·split<;>rfl
  ·rfl
theorem Wv (h:jI (Except.ok:Term->Except Nat Term) q n l=.error m):m≠0:=by
 unfold jI at h;split at h
 ·exact anP
 ·split at h
  ·split at h
   ·cases h
   ·split at h
    ·cases h
    ·exact anP
  ·cases h
theorem Qx {w:Str}(h:kD w≠0):5<=kD w/\kD w<=19:=by
 have a:=Kq h;have:∀w∈gX,5<=kD w/\kD w<=19:=aY;exact this w a
end Doc
namespace Go.Proofs.YtjiagbaaikifpaaGreatDoor
open Go.RowKit Go.Proofs.Tryz
variable {l:List Nat}{m n:Nat}{x:dN}
theorem abd (b:List Doc.Sym)(a:List Doc.Term)(s:Nat)(c:List Nat):Doc.applied b a s c=match mZ b a s c with|.error e=>.error e|.ok t=>Doc.note a t:=by
 unfold Doc.applied mZ;split
 ·rfl
 ·split<;>rfl
theorem abf {a:List Doc.Sym}{b:List Doc.Term}(h:mZ a b n l=.error m):m≠0:=by
 unfold mZ at h;split at h
 ·exact anP
 ·split at h
  ·exact anP
  ·cases h
theorem adV {b:List Doc.Sym}{a:List Doc.Term}{t:Doc.Term}(c:n<b.length)(d:∀e∈l,e<a.length)(h:mZ b a n l=.ok t):Doc.rU b a a.length t/\t.args=l:=by
 unfold mZ at h;split at h
 ·cases h
 ·split at h
  ·cases h
  ·rename_i f;injection h with h;subst h;exact⟨⟨d,by simp[Doc.nameOf],.app rfl c ana rfl⟩,rfl⟩
theorem ZK {c:List Doc.Sym}{a:List Doc.Term}{t:Doc.Term}(e:Doc.iB c a)(f:Doc.kD x≠0)(d:∀b∈l,b<a.length)(h:Doc.jI Except.ok a (Doc.kD x) l=.ok t):Doc.rU c a a.length t/\t.args.length<=4:=by
 rw[<-Doc.MQ a l (λb g=>Doc.Q4 e b (d b g)) x ((Doc.xL x).2 f)]at h;exact Doc.Qt d Doc.forms (λj i=>i) h
theorem Wu {c:List Doc.Sym}{a:List Doc.Term}(d:Doc.iB c a)(e:Doc.kD x≠0)(f:∀b∈l,b<a.length):Doc.oH a x l=match Doc.jI Except.ok a (Doc.kD x) l with|.error g=>.error g|.ok t=>Doc.note a t:=by
 have h:Doc.oH a x l=Doc.kN (Doc.note a) a x l:=Doc.Ws a x l Doc.forms;rw[h,Doc.MQ a l (λb i=>Doc.Q4 d b (f b i)) x ((Doc.xL x).2 e),Doc.S9]
