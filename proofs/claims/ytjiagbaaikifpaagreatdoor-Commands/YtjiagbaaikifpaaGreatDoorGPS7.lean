import Derived.Lib.ConvBytes
import Derived.Test.YtjiagbaaikifpaaGreatDoorGPS0
set_option maxRecDepth 100000
set_option maxHeartbeats 16000000
namespace Go.Proofs.YtjiagbaaikifpaaGreatDoor
open Go.RowKit Go.Proofs.Tryz
variable {W u w:World}{b:List Value}{e:TypeId}{h:Ending}{i k m n:Nat}{v:Value}
theorem YL (a k:Nat)(own:Own)(S:Doc.dO)(w:World)(b:dI w own k a S) :
 dH 110 #[dK a 0] w λe d=>e=dF (dw S.levels.length)/\d=w:=by
 obtain⟨v,f,c⟩:=b.levels;obtain⟨g,h,rfl,i,j⟩:=c.form;clear c b;go_enter func110,ntmps110;go_wp2;go_ret;exact⟨rfl,rfl⟩
theorem Ra (b k:Nat)(own:Own)(S:Doc.dO)(w:World)(a:dI w own k b S) :
 dH 89 #[dK b 0] w λf g=>f=dF (.agg #[dw S.syms.length,dw S.terms.length,dw S.held.length])/\dB w g:=by
 obtain⟨m,o,c⟩:=a.syms;obtain⟨p,q,rfl,u0,r⟩:=c.form;obtain⟨s,t,d⟩:=a.terms;obtain⟨u,v,rfl,u1,x⟩:=d.form;obtain⟨y,z,e⟩:=a.held;obtain⟨A,B,rfl,u2,C⟩:=e.form;have D:=a.lt;have h:Hid (∀n,dB w ((w.alloc (.cells #[dw S.syms.length,dw S.terms.length,dw S.held.length] 133)).drewN n)):=λn=>below_drewN ai n;clear c d e a;generalize S.syms.length=i at *;generalize S.terms.length=j at *;generalize S.held.length=l at *;go_enter func89,ntmps89;go_wp2_with fail;go_region
 all_goals
  go_wp2;exact dR (.agg #[dw i,dw j,dw l]) (by simp[results,results89,go_sem]) rfl ⟨rfl,h.o _⟩
theorem Uu (W:World)(x:dN):∃b a,(convert 9 180 (dD x)).run prog W=.ok (dJ W.heap.size x.length b) a/\(convert 180 9 (dJ W.heap.size x.length b)).run prog a=.ok (dD x) a/\Below W.heap.size W a/\W.heap.size+1=a.heap.size:=by
 have c:=Lib.run_convert_string_bytes (P:=prog) W 9 180 5 ⟨x.toArray⟩ underlying9 underlying180 underlying5;have d:(ByteArray.mk x.toArray).size=x.length:=by simp[ByteArray.size]
 rw[d]at c;refine⟨_,_,c,?_,⟨rfl,rfl,rfl,by rw[Lib.bytesWorld_size];omega,λk f=>Lib.bytesWorld_at_old W _ _ k f⟩,(Lib.bytesWorld_size W _ _).symm⟩;refine run_convert_bytes_back _ 180 9 5 _ _ x underlying180 underlying5 underlying9 (λj e=>?_);have g:((dA W.heap.size 0):Addr).add j=(dA W.heap.size j):=aob;rw[g,Lib.bytesWorld_cell W _ _ j (by rw[d];exact e)];simp[List.getD,e]
theorem Ye (e k:Nat)(own:Own)(S:Doc.dO)(w:World)(a:dI w own k e S)(n:eD own w)(f:k≠0) :
 dH 132 #[dK e 0] w λq r=>q=dF (dM #[])/\nP w r own k e Doc.dO.empty:=by
 obtain⟨B,o,s⟩:=a.syms;obtain⟨C,t,u⟩:=a.terms;obtain⟨D,v,x⟩:=a.held;obtain⟨E,y,z⟩:=a.levels;have b:=lJ (f:=0) (e:=197) (sz:=3) (n:=0) (v':=dE) (ys:=[]) n a.mine a.lt af o (World.ownsRow_nil _ _ _ _);have g:=a.vg o b.1 f (eU.nil _ _ _ _ _ _);have i:=(b.1.cells 1 aR).trans t;have c:=lJ (f:=1) (e:=226) (sz:=5) (n:=0) (v':=dE) (ys:=[]) b.1.fr.eH g.mine g.lt af i (World.ownsRow_nil _ _ _ _);have h:=g.sD i c.1 f (eU.nil _ _ _ _ _ _);have j:=(c.1.cells 2 aR).trans ((b.1.cells 2 aR).trans v);have d:=lJ (f:=2) (e:=3) (sz:=1) (n:=0) (v':=dE) (ys:=[]) c.1.fr.eH h.mine h.lt af j (World.ownsRow_nil _ _ _ _);have S2:=h.vk j d.1 f (eU.nil _ _ _ _ _ _);have l:=(d.1.cells 3 aR).trans ((c.1.cells 3 aR).trans ((b.1.cells 3 aR).trans y));have m:=lJ (f:=3) (e:=133) (sz:=3) (n:=0) (v':=dE) (ys:=[]) d.1.fr.eH S2.mine S2.lt af l (World.ownsRow_nil _ _ _ _);have p:=S2.qm l m.1 f (eU.nil _ _ _ _ _ _);have A:=dn (show nP w _ own k e Doc.dO.empty from⟨_,((b.1.fr.trans c.1.fr).trans d.1.fr).trans m.1.fr,p⟩);have F:=a.fr;clear b g c h d S2 m p s u x z i j l a n;go_enter func132,ntmps132;go_wp2;go_end0;exact⟨rfl,A.o⟩
def sU (x:dN)(av:Value)(s:Nat):List Value:=[dD x,av,dw (s:Int)]
theorem SH (w:World)(x:dN)(s:Nat)(a:eu)(m b:Nat)(c:TypeId)(n:Nat)(d:n=w.heap.size):∀j u,(sU x (.slice a m b) s)[j]?=some u->((w.alloc (.cells #[dD x,.slice a m b,dw (s:Int)] c)).drew).cell? (((dA n 0):Addr).add j)=some u:=by
 subst d;exact λj u h=>oW w (sU x (.slice a m b) s) c j u h
theorem Zq (x:dN)(s:Nat)(b:eu)(m c:Nat):∀u∈sU x (.slice b m c) s,u.oneCell'=true:=by
 intro u a;simp only[sU,List.mem_cons,List.not_mem_nil,or_false]at a;rcases a with rfl|rfl|rfl<;>rfl
structure afT (w:World)(own:Own)(wx:World)(t:Doc.Sym)(ao:eu)(cap:Nat):Prop where
 ek:dB w wx
 c0:wx.cell? (dA w.heap.size 0)=some (dD t.name)
 c1:wx.cell? (dA w.heap.size 1)=some (.slice ao t.args.length cap)
 c2:wx.cell? (dA w.heap.size 2)=some (dw t.sort)
 lt:w.heap.size<wx.heap.size
 ro:fG wx own (.slice ao t.args.length cap) t.args
theorem QV (b k:Nat)(own:Own)(S:Doc.dO)(t:Doc.Sym)(A:eu)(p:Nat)(w:World)(B:dI w own k b S)(T:eD own w)(U:k≠0)(I:eX w (.slice A t.args.length p) t.args)(hlen:t.args.length<=1000) :
 dH 126 #[dK b 0,.agg #[dD t.name,.slice A t.args.length p,dw t.sort]] w λl w'=>l=dF (.bool (decide (S.syms.length<8)))/\nP w w' own k b (if S.syms.length<8 then { S with syms:=S.syms++[t] } else S):=by
 obtain⟨i0,hi,hz0,hz1,hz2⟩:=info_parts KW;have J:dB w (w.alloc (.cells #[dD t.name,.slice A t.args.length p,dw t.sort] 197)):=ai;have V:=dn B;have C:=dn T;have W:=dn J;have YJ:=dn I;have X:=B.lt;obtain⟨ao',cap',K,k1,k2,_⟩:=id I;injection K with K _ Ii
 subst K Ii;unfold maxLen at k2;obtain⟨Y,f,g⟩:=B.syms;obtain⟨r,s,rfl,hcap,hmax⟩:=g.form;have RV:=dn f;have TW:=J.dL f X;clear g f B T I J
 by_cases D:S.syms.length<8
 ·rw[if_pos D,decide_eq_true D];obtain⟨Oy,E,Z,cv2,v,hsB⟩:=Uu (w.alloc (.cells #[dD t.name,.slice A t.args.length p,dw t.sort] 197)) t.name;simp only[World.size_alloc]at Z cv2 v hsB;have L:∀j u,(w.alloc (.cells #[dD t.name,.slice A t.args.length p,dw t.sort] 197)).cell? (dA w.heap.size j)=some u->E.cell? (dA w.heap.size j)=some u:=λj u h=>(v.dL h aZ);have d0:=L 0 (dD t.name) aW;have g0:∀j,E.frozen? (dA w.heap.size j)=false:=λj=>(v.frozen (p:=dA w.heap.size j) aZ).trans aW;obtain⟨a,x⟩:=aK (E.setCell (dA w.heap.size 0) (dD t.name));have M:dB w a:=by rw[<-x];exact(W.o.trans (v.mono aR)).setCell ae _
  have hs1:a.heap.size=w.heap.size+1+1:=by rw[<-x];simp[World.setCell];omega
  have N:∀j u,(w.alloc (.cells #[dD t.name,.slice A t.args.length p,dw t.sort] 197)).cell? (dA w.heap.size j)=some u->a.cell? (dA w.heap.size j)=some u:=λj u h=>by
   rw[<-x]
   by_cases F:0=j
   ·subst F;have e0:u=dD t.name:=by simpa using h.symm
    rw[e0];exact aC d0
   ·rw[ax (λh=>F amM)];exact L j u h
  have g1:∀j,a.frozen? (dA w.heap.size j)=false:=λj=>by rw[<-x,World.frozen?_setCell];exact g0 j
  have d1:=N 1 (.slice A t.args.length p) aW;have Jd:=dn (Ir (.slice A t.args.length p) t.args a (YJ.o.below M) aR);have HB1:=dn M;have HY1:=dn N;have hlb:w.heap.size<E.heap.size:=aR;clear L N M v;go_enter func126,ntmps126;go_wp2_with fail;refine Jd.o.mono ?_;rintro l G ⟨⟨c,d,rfl,l1,l2,hown2⟩,m⟩;have hs2:=m.size;have e3:=m.dL d1 aZ;have f3:=m.gq (g1 1) aZ
  have e:Hid (afT w own (G.setCell (dA w.heap.size 1) (.slice c t.args.length d)) t c d):=by
   have hc:∀j u,1≠j->(w.alloc (.cells #[dD t.name,.slice A t.args.length p,dw t.sort] 197)).cell? (dA w.heap.size j)=some u->(G.setCell (dA w.heap.size 1) (.slice c t.args.length d)).cell? (dA w.heap.size j)=some u:=λj u F h=>by
    rw[ax (λh=>F amM)];exact(m.dL (HY1.o j u h) aZ)
   refine⟨(HB1.o.trans (m.mono aR)).setCell ae _,hc 0 _ aR aW,aC e3,hc 2 _ aR aW,by simp[World.setCell];omega,?_⟩;have h3:(G.setCell (dA w.heap.size 1) (.slice c t.args.length d)).ownsRow a.heap.size 3 1 (.slice c t.args.length d) t.args.length (ja t.args):=ownsRow_setCell_below hown2 aZ _;exact Ba h3 (λn y=>C.o n aR)
  clear hown2 m d1 Jd TW x Z cv2 d0 g0 g1;go_upto_region 5 with fail;generalize hW:G.setCell (dA w.heap.size 1) (.slice c t.args.length d)=i at *;have o:=V.o.below e.o.ek;have JA:eD own i:=λn y=>C.o n (Nat.le_trans e.o.ek.size y);obtain⟨Y,f,g⟩:=o.syms
  obtain rfl:Value.slice r S.syms.length s=Y:=by
   have:=e.o.ek.dL RV.o X;rw[f]at this;injection this with this
   exact this.symm
  have hlt3:=o.lt;have b0:=e.o.c0;have b1:=e.o.c1;have b2:=e.o.c2;have blt:=e.o.lt;obtain⟨H,x1,x2,x3,x4⟩:=id g;have uE:=dn x1;have vC:=o.fr;have O:=dn (wV o g aY);have HX:=dn (show iw (yE i own) H S.syms/\(∀bg∈H,bg.length=3) from⟨x2,x3⟩);have Ab:=dn g;have P:=dn o;have abR:=dn JA;have PN:=dn f;clear x1 x2 x3 x4 g o JA hW e3 f3;go_cut [] (fun wy=>∃Q cap q,ky i wy own q k b 0 (.slice r S.syms.length s) (dJ Q (S.syms.length+1) cap)/\wy.ownsRow 0 197 3 (dJ Q (S.syms.length+1) cap) (S.syms.length+1) (H.flatten++sU t.name (.slice c t.args.length d) t.sort)/\q Q=k)
  case first=>
   go_region_law (refine jC rfl (.tmp 24) (.tmp 26) 55 rfl 0 197 i0 (.agg #[eB,dE,dw 0]) 3 48 underlying55 hi hz0 hz1 hz2 rfl aY (.slice r S.syms.length s) S.syms.length H.flatten cO amO (dA i.heap.size 0) 1 (sU t.name (.slice c t.args.length d) t.sort) cO rfl (by exact SH _ _ _ _ _ _ _ _ aW) (Zq _ _ _ _ _) bz aR aW ?_;intro ga fD a hown' R hg1 hg2;have q1:a.cell? (dA b 0)=some (.slice r S.syms.length s):=((eY R (a:=dA b 0) aX (fun l=>O.o l.symm)).trans (dV _ _ (dA b 0) aX)).trans f;have q2:a.frozen? (dA b 0)=false:=((fo R (a:=dA b 0) aX (fun l=>O.o l.symm)).trans (eF _ _ (dA b 0) aX)).trans (vC 0))
   all_goals
    have hap:=qF (n:=S.syms.length+1) Ab.o abR.o P.o.mine P.o.lt O.o (ai.drew) PN.o hown' R hg2;go_wp2;go_meet
    ·exact⟨ga,fD,_,hap.1,hap.2.1,amQ⟩
  case rest=>
   obtain⟨ga,fD,q,hst,hown3,uk⟩:=hcut;have z:=dn hst;have HOWN:=dn hown3;have xD:=dn uk;clear hst hown3 uk vC b0 b1 b2;go_wp2;go_ret;have hro:fG wc q (.slice c t.args.length d) t.args:=e.o.ro.fr z.o.fr U;refine⟨rfl,q,(Fr.of_below k C.o e.o.ek).trans z.o.fr,P.o.vg PN.o z.o U ?_⟩;exact eU.snoc (w:=i) (C:=yE i own) (v:=.slice r S.syms.length s) ⟨uE.o,HX.o.1,HX.o.2⟩ HOWN.o (λbn bq h=>mD i wc own q (λn y h0=>⟨z.o.fr.block n y aR,by rw[z.o.fr.ext n y,h0]⟩) bn bq h) ⟨_,rfl,hro⟩ rfl xD.o
 ·rw[if_neg D,decide_eq_false D];go_enter func126,ntmps126;go_wp2;go_ret;exact⟨rfl,nP.same V.o C.o W.o⟩
def sW (a b c:Nat):List Value:=[dw (a:Int),dw (b:Int),dw (c:Int)]
theorem Tq (w:World)(a b c:Nat)(d:TypeId)(n:Nat)(e:n=w.heap.size):∀j u,(sW a b c)[j]?=some u->((w.alloc (.cells #[dw (a:Int),dw (b:Int),dw (c:Int)] d)).drew).cell? (((dA n 0):Addr).add j)=some u:=by
 subst e;exact λj u h=>oW w (sW a b c) d j u h
theorem ZV (b c d:Nat):∀u∈sW b c d,u.oneCell'=true:=by
 intro u a;simp only[sW,List.mem_cons,List.not_mem_nil,or_false]at a;rcases a with rfl|rfl|rfl<;>rfl
def dO.lv (S:Doc.dO)(m:Nat):Doc.dO:={ S with levels:=S.levels++List.replicate m (S.syms.length,S.terms.length,S.held.length) }
theorem abt (b k n:Nat)(own:Own)(S:Doc.dO)(w:World)(l:dI w own k b S)(F:eD own w)(Y:k≠0)(G:S.levels.length<=4)(hn:n<=1000000000) :
 dH 130 #[dK b 0,dw n] w λo Z=>o=dF (.bool (decide (n+S.levels.length<=4)))/\nP w Z own k b (if n+S.levels.length<=4 then dO.lv S n else S):=by
 obtain⟨i0,hi,hz0,hz1,hz2⟩:=info_parts KX;have H:=dn l;have p:=dn F;have hlt:=l.lt;have abK:=dn (Ra b k own S w l);obtain⟨vT,Rk,I⟩:=l.levels;obtain⟨aT,lL,rfl,hcap,hmax⟩:=I.form;have RV:=dn Rk;clear I l F
 by_cases e:n+S.levels.length<=4
 ·rw[if_pos e,decide_eq_true e];have h4':(n:Int)<=4-(S.levels.length:Int):=aR;have u:Hid (∀m,(dO.lv S m).levels.length=S.levels.length+m):=λm=>by simp[dO.lv]
  have HZ:Hid (dO.lv S 0=S):=by show _=_;unfold dO.lv;simp
  have HSN:Hid (∀m,{ dO.lv S m with levels:=(dO.lv S m).levels++[(S.syms.length,S.terms.length,S.held.length)] }=dO.lv S (m+1)):=λm=>by unfold dO.lv;simp[List.replicate_succ']
  have FV:Hid (∀W O,DN W O (sW S.syms.length S.terms.length S.held.length) (S.syms.length,S.terms.length,S.held.length)):=λW O=>rfl;generalize S.levels.length=L at *;generalize S.syms.length=f at *;generalize S.terms.length=g at *;generalize S.held.length=h at *;clear e;go_enter func130,ntmps130;go_wp2_with fail;refine abK.o.dX λa v=>?_;have q:dB w (a.alloc (.cells #[dw f,dw g,dw h] 133)):=v.fO;have hs1:=v.size;have J:own a.heap.size=0:=p.o _ hs1;have HOWN:=dn J;have HB2:=dn q
  have qJ:Hid (∀c W,Fr own c k (a.alloc (.cells #[dw f,dw g,dw h] 133)) W->W.cell? (dA a.heap.size 0)=some (dw f)/\W.cell? (dA a.heap.size 1)=some (dw g)/\W.cell? (dA a.heap.size 2)=some (dw h)/\a.heap.size<W.heap.size):=λc W i=>
   ⟨i.cell (p:=dA a.heap.size 0) aW aoe,i.cell (p:=dA a.heap.size 1) aW aoe,i.cell (p:=dA a.heap.size 2) aW aoe,by have:=i.size;simp at this;omega⟩
  have Pd:=dn (H.o.below q);have abS:Hid (eD own (a.alloc (.cells #[dw f,dw g,dw h] 133))):=λbg hb=>p.o bg (Nat.le_trans q.size hb);clear v q J;go_wp2_with fail
  go_loopw [6] (fun x wr=>∃(m:Nat) (c:Own),x=dw m/\m<=n/\Fr own c k (a.alloc (.cells #[dw f,dw g,dw h] 133)) wr/\dI wr c k b (dO.lv S m)) (fun x _=>n-(intOf x).toNat)
  ·exact⟨0,own,rfl,aR,Fr.refl abS.o k,by rw[HZ.o];exact Pd.o⟩
  case round=>
   obtain⟨m,c,rfl,hm,r,d⟩:=hrel;have y:=dn r;have s:=dn d;obtain⟨b0,b1,b2,blt⟩:=qJ.o c wr r
   by_cases ru:m<n
   ·have hlt3:=d.lt;obtain⟨vL,z,j⟩:=d.levels;obtain⟨A,B,rfl,agU,akw⟩:=j.form;rw[u.o m]at agU z j;have hl4:L+m<=4:=aR;obtain⟨C,D,K,M,x4⟩:=id j;rw[u.o m]at D;have N:=dn D;have vC:=d.fr;have E:=dn (wV d j aY);have P:=dn (show iw (DN wr c) C (dO.lv S m).levels/\(∀bn∈C,bn.length=3) from⟨K,M⟩);have Ab:=dn j;have Q:=dn z;clear D K M x4 j d r;go_upto_region 7 with fail
    go_region_law (refine jC rfl (.tmp 26) (.tmp 28) 58 rfl 0 133 i0 (.agg #[dw 0,dw 0,dw 0]) 3 24 underlying58 hi hz0 hz1 hz2 rfl aY (.slice A (L+m) B) (L+m) C.flatten cO (by exact(N.o.alloc _).drew) (dA wr.heap.size 0) 1 (sW f g h) cO rfl (by exact Tq _ _ _ _ _ _ aW) (ZV _ _ _) bz aR aW ?_;intro ga fD a R t hg1 T;have q1:a.cell? (dA b 3)=some (.slice A (L+m) B):=((eY t (a:=dA b 3) aX (fun o=>E.o o.symm)).trans (dV _ _ (dA b 3) aX)).trans z;have q2:a.frozen? (dA b 3)=false:=((fo t (a:=dA b 3) aX (fun o=>E.o o.symm)).trans (eF _ _ (dA b 3) aX)).trans (vC 3))
    all_goals
     have hap:=dn (qF (n:=L+m+1) Ab.o y.o.eH s.o.mine s.o.lt E.o (ai.drew) Q.o R t T);clear R t hg1 T;go_wp2;go_roundw
     case rel=>
      obtain⟨U,V,_⟩:=hap.o;refine⟨m+1,_,bL,aR,y.o.trans U.fr,?_⟩;rw[<-HSN.o m];refine s.o.qm Q.o U Y ?_;have G:=u.o m;have X:=N.o;rw[<-G]at X V ⊢;exact eU.snoc (w:=wr) (C:=DN wr c) (v:=.slice A _ B) ⟨X,P.o.1,P.o.2⟩ V (λbq bA i=>i) (FV.o _ _) rfl amQ
     case measure=>exact aph
   ·clear r d b0 b1 b2 blt;go_wp2;go_ret;have ahX:m=n:=aR;subst ahX;exact⟨rfl,c,(Fr.of_below k p.o HB2.o).trans y.o,s.o⟩
 ·rw[if_neg e,decide_eq_false e];have h4':(4:Int)-(S.levels.length:Int)<(n:Int):=aR;clear e;go_enter func130,ntmps130;go_wp2;go_ret;exact⟨rfl,nP.same H.o p.o af⟩
theorem Wo (h:w.ownsRow n e k v i b)(f:m<=n):w.ownsRow m e k v i b:=by
 refine⟨h.1,?_⟩;rcases h.2 with h|⟨g,a,c,d,j,r⟩
 ·exact .inl h
 ·exact .inr ⟨g,a,c,d,aR,r⟩
def LZ (w w':World)(ty:TypeId)(sz m:Nat)(ys:List Value)(e:Ending):Prop:=∃au cap,e=dF (.slice au m cap)/\w'.ownsRow w.heap.size ty sz (.slice au m cap) m ys/\dB w w'
theorem qZ.to {a:List (List Value)}(b:dB w W)(d:a.length=m)(f:qZ u W.heap.size e n a h/\dB W u):LZ w u e n m a.flatten h:=by
 obtain⟨⟨k,rfl,c⟩,g⟩:=f;subst d;obtain⟨i,j,rfl,_,_⟩:=ik c;exact⟨i,j,rfl,Wo c b.size,b.dW g⟩
theorem aaT {own:Own}{S:Doc.dO}(b:dI w own n m S)(v:eD own w)(x:n≠0)(H:S.syms.length<=1000000)(c:Nat)(I:c<=1000000):∃d e o p,w.cell? (dA m 0)=some (.slice d S.syms.length e)/\
 (∀W,dB w W->dH 184 #[.slice d S.syms.length e,dw c] W λq r=>LZ w r 197 3 o p q)/\
 (∀f i,dB w f->f.ownsRow w.heap.size 197 3 i o p->nP w (f.setCell (dA m 0) i) own n m { S with syms:=S.syms.take c }):=by
 obtain⟨J,j,s⟩:=b.syms;obtain⟨d,e,rfl,_,_⟩:=s.form;obtain⟨y,z,k,t,K⟩:=id s;have A:=k.len;refine⟨d,e,_,_,j,λW a=>(Gv _ y c W ((Row.fq z A.symm t).below a) (CO k (λu l h=>VK h)) aR aR).mono (λq r h=>qZ.to a rfl h),λf i B C=>?_⟩;obtain⟨g,D,E⟩:=lJ (f:=0) v b.mine b.lt B j C;exact⟨_,g.fr,b.vg j g x (eU.first rfl ⟨k,t⟩ D (λF u h=>mD _ _ _ _ (λl a G=>⟨g.fr.block l a aR,by rw[g.fr.ext l a,G]⟩) F u h) E)⟩
theorem aaV {own:Own}{S:Doc.dO}(a:dI w own n m S)(t:eD own w)(u:n≠0)(F:S.held.length<=1000000)(b:Nat)(G:b<=1000000):∃c d j k,w.cell? (dA m 2)=some (.slice c S.held.length d)/\
 (∀W,dB w W->dH 185 #[.slice c S.held.length d,dw b] W λl o=>LZ w o 3 1 j k l)/\
 (∀e f,dB w e->e.ownsRow w.heap.size 3 1 f j k->nP w (e.setCell (dA m 2) f) own n m { S with held:=S.held.take b }):=by
 obtain⟨H,g,p⟩:=a.held;obtain⟨c,d,rfl,_,_⟩:=p.form;obtain⟨v,x,i,q,I⟩:=id p;have y:=i.len;refine⟨c,d,_,_,g,λW r=>(Di _ v b W ((Row.fq x y.symm q).below r) (CO i (λz A h=>⟨A,h⟩)) aR aR).mono (λl o h=>qZ.to r rfl h),λe f B C=>?_⟩;obtain⟨s,D,E⟩:=lJ (f:=2) t a.mine a.lt B g C;exact⟨_,s.fr,a.vk g s u (eU.first rfl ⟨i,q⟩ D (λJ z h=>h) E)⟩
theorem CJ {own:Own}{S:Doc.dO}(d:dI w own n m S)(D:eD own w)(E:n≠0)(T:S.levels.length<=1000000)(e:Nat)(U:e<=1000000):∃c a u v,w.cell? (dA m 3)=some (.slice c S.levels.length a)/\S.levels.length<=a/\a<=2 ^ 63-1/\
 (∀W,dB w W->dH 183 #[.slice c S.levels.length a,dw e] W λx y=>LZ w y 133 3 u v x)/\
 (∀f k,dB w f->f.ownsRow w.heap.size 133 3 k u v->nP w (f.setCell (dA m 3) k) own n m { S with levels:=S.levels.take e })/\
 (∀i (hi:i<S.levels.length),∃g,c=some (dA g 0)/\g<w.heap.size/\∀W,dB w W->W.cell? (dA g (i*3))=some (dw S.levels[i].1)/\W.cell? (dA g (i*3+1))=some (dw S.levels[i].2.1)/\W.cell? (dA g (i*3+2))=some (dw S.levels[i].2.2)):=by
 obtain⟨V,l,o⟩:=d.levels;obtain⟨c,a,rfl,F,G⟩:=o.form;obtain⟨H,I,p,z,X⟩:=id o;have J:=p.len;refine⟨c,a,_,_,l,F,G,λW b=>(JH _ H e W ((Row.fq I J.symm z).below b) (CO p (λK q h=>⟨q.1,q.2.1,q.2.2,h⟩)) aR aR).mono (λx y h=>qZ.to b rfl h),λf k L M=>?_,λi hi=>?_⟩
 ·obtain⟨A,N,r⟩:=lJ (f:=3) D d.mine d.lt L l M;exact⟨_,A.fr,d.qm l A E (eU.first rfl ⟨p,z⟩ N (λB K h=>h) r)⟩
 ·obtain⟨Y,Z,s,_,_,O⟩:=o.sl;injection s with s _ _
  subst s;obtain⟨g,r,_,P⟩:=O i hi;obtain⟨B,hcl,Q,t⟩:=P hi;have R:B=[dw (S.levels[i].1:Int),dw (S.levels[i].2.1:Int),dw (S.levels[i].2.2:Int)]:=Q;subst R;have C:=t 0 _ aR rfl;have j:=aj C;exact⟨g,r,j,λW b=>⟨(b.dL C j),(b.dL (t 1 _ aR rfl) j),(b.dL (t 2 _ aR rfl) j)⟩⟩
def Aj (n:Nat)(S:Doc.dO):Doc.dO:=if n=0 then S else Doc.back S (S.levels.getD (S.levels.length-n) (0,0,0)) (S.levels.take (S.levels.length-n))
theorem ad4 (b k n:Nat)(own:Own)(S:Doc.dO)(w:World)(i:dI w own k b S)(M:eD own w)(j:k≠0)(g:Doc.iq S)(hn:n<=1000000000) :
 dH 131 #[dK b 0,dw n] w λl w'=>l=dF (.bool (decide (n<=S.levels.length)))/\nP w w' own k b (if n<=S.levels.length then Aj n S else S):=by
 have N:=dn i;have m:=dn M;have O:=i.lt;have hl4:=g.ve;have ahO:=g.book.many;have Fv:=g.book.few;have hh12:=g.qR;obtain⟨aL,afN,m3,ys3,hcL,hcap,hmax,y,z,aeV⟩:=CJ i M j aR (S.levels.length-n) aR;have A:=dn aeV;have Hw:=i.fr;clear y z aeV i M
 by_cases p:n<=S.levels.length
 ·rw[if_pos p,decide_eq_true p]
  by_cases h0:n=0
  ·subst h0;have e0:Aj 0 S=S:=rfl;rw[e0];exact aq7
  ·obtain⟨q,hq⟩:=aK (S.levels.length-n);have P:q<S.levels.length:=aR;obtain⟨bq,rfl,hgl,B⟩:=A.o q P;obtain⟨lv,C⟩:=aK (S.levels[q]);have hlm:lv∈S.levels:=by rw[<-C];exact List.getElem_mem P
   have D:=g.Bg lv hlm;have la:=D.a;have lb:=D.b;have lc:=D.c;rw[C]at B
   have HPP:Hid (Aj n S=Doc.back S lv (S.levels.take q)):=by
    show _=_;unfold Aj;rw[if_neg h0,hq,List.getD_eq_getElem?_getD,aF P,C];rfl
   rw[HPP.o];have hsub:(S.levels.length:Int)-(n:Int)=(q:Int):=aR;have EC:Hid (Doc.back S lv (S.levels.take q)={ syms:=S.syms.take lv.1,terms:=S.terms.take lv.2.1,held:=S.held.take lv.2.2,levels:=S.levels.take q }):=rfl;rw[EC.o];have FP:Hid (S.syms.length<=8/\S.held.length<=12/\S.terms.length<=80):=⟨Fv,hh12,ahO⟩;obtain⟨z0,z1,z2⟩:=B w af;obtain⟨y0,y1,y2⟩:=B (w.alloc (.cells #[dw 0,dw 0,dw 0] 133)) ai;obtain⟨a,c,d⟩:=lv;simp only at la lb lc z0 z1 z2 y0 y1 y2 HPP EC ⊢;clear B hlm D C hq A g p;have e:dB w (w.alloc (.cells #[dw a,dw c,dw d] 133)):=ai;have HB0:=dn e;have Q:=e.dL hcL O;have ajQ:Hid (eD own (w.alloc (.cells #[dw a,dw c,dw d] 133))):=λbg hb=>m.o bg (Nat.le_trans e.size hb);have afc:=λo=>(e.gq (Hw o) O);obtain⟨aL',akF,m3',akK,E,_,_,y,z,ah0⟩:=CJ (N.o.below e) ajQ.o j aR q aR;rw[Q]at E;injection E with E;injection E with e1 _ e2;subst e1 e2;have oQ:=dn y;have aiU:=dn z;clear y z ah0;have hown0:own w.heap.size=0:=m.o _ ae
   have R:Hid (∀own' W,Fr own own' k (w.alloc (.cells #[dw a,dw c,dw d] 133)) W->W.dQ w.heap.size 0=some (dw a)/\W.dQ w.heap.size 1=some (dw c)/\W.dQ w.heap.size 2=some (dw d)/\w.heap.size<W.heap.size):=λown' W F=>
    ⟨F.cell (p:=dA w.heap.size 0) aW aod,F.cell (p:=dA w.heap.size 1) aW aod,F.cell (p:=dA w.heap.size 2) aW aod,by have:=F.size;simp at this;omega⟩
   have aeT:b<(w.alloc (.cells #[dw a,dw c,dw d] 133)).heap.size:=Nat.lt_of_lt_of_le O e.size;clear e hown0;generalize S.levels.length=bn at *;have hql:(q:Int)<(bn:Int):=aR;go_enter func131,ntmps131;go_wp2_with fail;refine(oQ.o _ af).mono ?_;rintro l w1 ⟨au,afM,rfl,hu,G⟩;have q1:=G.dL Q aeT;have q2:=G.gq (afc 3) aeT;have HTO:=dn (aiU.o w1 _ G hu);clear hu G z0 z1 z2 y0 y1 y2 hcL Q Hw afc;go_upto_region 8 with fail
   generalize w1.setCell (dA b 3) (.slice au m3' afM)=wa at *;obtain⟨SV,H,I⟩:=HTO.o;obtain⟨r,s,t,u⟩:=R.o SV wa H;obtain⟨a0,p0,m0,ys0,hc0,Xf,aeH⟩:=aaT I H.eH j anU a aR;have FY:=dn Xf;have af2:=dn aeH;have T:=I.lt;have afb:=I.fr 0;have YF:=dn H;clear Xf aeH I H;go_cut [] (fun U=>nP (w.alloc (.cells #[dw a,dw c,dw d] 133)) U own k b { syms:=S.syms.take a,terms:=S.terms,held:=S.held,levels:=S.levels.take q })
   case first=>
    go_region_with (go_at_call 184;refine(FY.o _ bY).mono ?_;rintro l v ⟨V,X,rfl,Y,f⟩;have r1:=f.dL hc0 T;have r2:=(f.gq afb T))
    all_goals
     have x:Hid (nP (w.alloc (.cells #[dw a,dw c,dw d] 133)) (v.setCell (dA b 0) (.slice V m0 X)) own k b { syms:=S.syms.take a,terms:=S.terms,held:=S.held,levels:=S.levels.take q }):=by
      obtain⟨J,h,K⟩:=af2.o v _ f Y;exact⟨J,YF.o.trans h,K⟩
     go_wp2;go_meet
     ·exact x.o
   case rest=>
    clear r s t u hc0 T afb FY af2 YF HTO;obtain⟨J,h,K⟩:=hcut;obtain⟨r,s,t,u⟩:=R.o J wc h;have HKT:=dn (Dl b k c J _ wc K h.eH j aR anU);have ry:=dn h;clear h K;go_wp2_with fail;refine HKT.o.mono ?_;rintro l w3 ⟨rfl,pI,Z,L⟩;have aav:=ry.o.trans Z;clear r s t u;obtain⟨r,s,t,u⟩:=R.o pI w3 aav;obtain⟨a2,p2,m2,ys2,hc2,Xe,aeG⟩:=aaV L Z.eH j anU d aR;have jl:=dn Xe;have aiV:=dn aeG;have hlt3:=L.lt;have afa:=L.fr 2;have tJ:=dn aav;clear Xe aeG L Z aav HKT ry;go_upto_region 10 with fail;go_cut [] (fun U=>nP (w.alloc (.cells #[dw a,dw c,dw d] 133)) U own k b { syms:=S.syms.take a,terms:=S.terms.take c,held:=S.held.take d,levels:=S.levels.take q })
    case first=>
     go_region_with (go_at_call 185;refine(jl.o _ bY).mono ?_;rintro l v ⟨V,X,rfl,Y,f⟩;have r1:=f.dL hc2 hlt3;have r2:=(f.gq afa hlt3))
     all_goals
      have x:Hid (nP (w.alloc (.cells #[dw a,dw c,dw d] 133)) (v.setCell (dA b 2) (.slice V m2 X)) own k b { syms:=S.syms.take a,terms:=S.terms.take c,held:=S.held.take d,levels:=S.levels.take q }):=by
       obtain⟨ZF,hf4,hS4⟩:=aiV.o v _ f Y;exact⟨ZF,tJ.o.trans hf4,hS4⟩
      go_wp2;go_meet
      ·exact x.o
    case rest=>
     have x:=dn (nP.lift m.o HB0.o hcut);clear hcut r s t u hc2 hlt3 afa;go_wp2;go_ret;exact⟨rfl,x.o⟩
 ·rw[if_neg p,decide_eq_false p];have hneg:(S.levels.length:Int)-(n:Int)<0:=aR;exact aq7
