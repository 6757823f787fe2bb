import Derived.Test.YtjiagbaaikifpaaGreatDoorGUni2
set_option maxRecDepth 100000
set_option maxHeartbeats 16000000
namespace Go.Proofs.YtjiagbaaikifpaaGreatDoor
open Go.RowKit Go.Proofs.Tryz
variable {B b:List Value}{F f:List Int}{V v y:Value}{W u w:World}{X:fB}{Z z:Int}{a d:eu}{e:TypeId}{h:Ending}{i j k m n:Nat}
def str (z:Int):Value:=dD (dC.dec z)
theorem Y9:str 0=.string ⟨#[48]⟩:=rfl
theorem qQ {size:Nat}(h:w.ownsRow n e size v k b)(a:m<=n):w.ownsRow m e size v k b:=by
 refine⟨h.1,?_⟩;rcases h.2 with c|⟨g,d,f,i,j,l⟩
 ·exact .inl c
 ·exact .inr ⟨g,d,f,i,Nat.le_trans a j,l⟩
theorem eZ (h:w.ownsRow n e 1 v m b):∃c a,v=.slice c m a/\m<=a/\a<=2 ^ 63-1/\∀i,i<m->∃g,c=some (dA g 0)/\w.cell? (dA g i)=b[i]?/\w.frozen? (dA g i)=false:=by
 have d:=h;rcases h.2 with ⟨rfl,j⟩|⟨g,a,l,rfl,_,_,k,f,_⟩
 ·exact⟨none,0,by rw[j],aR,aR,λi hi=>aR⟩
 ·unfold maxLen at f;refine⟨some (dA g 0),a,rfl,k,f,λi hi=>⟨g,rfl,?_,d.frozenAt i⟩⟩;rw[d.cellAt i aR]
def yB (w':World)(base:Nat)(zs:List Int)(c:Int)(e:Ending):Prop:=
 ∃vs,e=dF (.agg #[vs,str c])/\w'.ownsRow base 9 1 vs zs.length (zs.map str)
structure nO (B:Nat)(wx:World)(vs:Value)(k:Nat)(xs:List Value):Prop where
 c0:wx.cell? (dA (B+1) 0)=some vs
 c1:wx.cell? (dA (B+1) 1)=some (eB)
 fr:∀o,wx.frozen? (dA (B+1) o)=false
 r0:wx.cell? (dA B 0)=some (dE)
 r1:wx.cell? (dA B 1)=some (eB)
 rf:∀o,wx.frozen? (dA B o)=false
 own:wx.ownsRow (B+2) 9 1 vs k xs
 size:B+1<wx.heap.size
theorem nO.after (h:nO n w v m b)(a:dB w W):nO n W v m b:=by
 have c:=h.size
 exact⟨(a.dL h.c0 c),(a.dL h.c1 c),λo=>(a.gq (h.fr o) c),
  (a.dL h.r0 alT),(a.dL h.r1 alT),λo=>(a.gq (h.rf o) alT),
  ownsRow_below h.own a,Nat.lt_of_lt_of_le c a.size⟩
theorem nO.app (h:nO n w v m b)(X:Obj)(a:mo (w.alloc X) W (n+1) 0 (n+2) 9 1 v V (m+1) B):nO n W V (m+1) B/\Below (n+1) w W:=by
 have f:=h.size;have d:dB w (w.alloc X):=af.alloc ae X;have c:=h.after d;have e:=a.size
 refine⟨⟨a.cell,(a.cells 1 aR).trans c.c1,λo=>(a.frozen o).trans (c.fr o),
  (a.below.dL c.r0 alT),(a.below.dL c.r1 alT),λo=>(a.below.gq (c.rf o) alT),
  a.own,Nat.lt_of_lt_of_le c.size e⟩,(d.mono aR).trans a.below⟩
theorem nO.done (h:nO n W v m b)(a:dB w W)(e:w.heap.size<=n)(u:Value) :
 ((W.setCell (dA (n+1) 1) u).setCell (dA n 0) v).cell? (dA n 0)=some v/\(((W.setCell (dA (n+1) 1) u).setCell (dA n 0) v).setCell (dA n 1) u).cell? (dA n 1)=some u/\
 (((W.setCell (dA (n+1) 1) u).setCell (dA n 0) v).setCell (dA n 1) u).ownsRow w.heap.size 9 1 v m b/\dB w (((W.setCell (dA (n+1) 1) u).setCell (dA n 0) v).setCell (dA n 1) u):=by
 have c:(W.setCell (dA (n+1) 1) u).cell? (dA n 0)=some (dE):=(ax (λh=>anP)).trans h.r0;have d:((W.setCell (dA (n+1) 1) u).setCell (dA n 0) v).cell? (dA n 1)=some (eB):=(ax (λh=>cZ)).trans ((ax (λh=>anP)).trans h.r1)
 exact⟨World.cell?_setCell_same _ _ v c,World.cell?_setCell_same _ _ u d,qQ (ownsRow_setCell_below (a:=dA n 1) (ownsRow_setCell_below (a:=dA n 0) (ownsRow_setCell_below (a:=dA (n+1) 1) h.own (by show n+1<_;omega) _) alT _) alT _) aR,
  ((a.setCell (by show _<=n+1;omega) _).setCell (by show _<=n;omega) _).setCell (by show _<=n;omega) _⟩
theorem nO.start (w:World):nO w.heap.size ((w.alloc (.cells #[dE,eB] 274)).alloc (.cells #[dE,eB] 274)) (dE) 0 []:=
 ⟨aW,aW,al7,aW,aW,al7,World.ownsRow_nil _ _ _ _,aW⟩
theorem BM (n:Nat)(w:World)(N:n<=1000000) :
 dH 211 #[dw n] w λe j=>yB j w.heap.size (List.replicate n 0) 0 e/\dB w j:=by
 obtain⟨y,hi,z,A,B⟩:=info_parts ni;go_enter func211,ntmps211;go_wp2_with fail
 go_loopw [4] (fun i wr=>∃(k:Nat) (l:Value),i=dw k/\k<=n/\nO w.heap.size wr l k (List.replicate k (str 0))/\dB w wr) (fun i _=>n-(intOf i).toNat)
 case atStart=>
  exact⟨0,dE,rfl,aR,⟨aW,aW,al7,aW,aW,al7,World.ownsRow_nil _ _ _ _,aW⟩,ai.alloc aW _⟩
 case round=>
  obtain⟨k,l,rfl,O,c,m⟩:=hrel;have C:=dn c;obtain⟨a,b,rfl,P,Q,_⟩:=eZ c.own;obtain⟨p,R,D,E,F,S,d,g⟩:=id c;have r:∀q,(Value.slice a k b).ownBlock=some q->w.heap.size+2<=q:=λq G=>(d.lt q G).1
  by_cases T:k<n
  ·clear c;go_wp2_with (at_builtin;refine dU rfl (.tmp 11) (.tmp 12) 45 rfl (w.heap.size+2) 9 y (eB) 1 16 underlying45 hi z A B rfl aY (.slice a k b) k (List.replicate k (str 0)) rfl (by exact(d.alloc _)) (dA wr.heap.size 0) 1 [.string ⟨#[48]⟩] rfl rfl bP bX bz aR aX ?_;intro U V s t f H u;have W:s.cell? (dA (w.heap.size+1) 0)=some (.slice a k b):=((eY f (a:=dA (w.heap.size+1) 0) aX (λe=>aP (r (w.heap.size+1) e.symm))).trans (dV wr _ _ g)).trans p;have X:s.frozen? (dA (w.heap.size+1) 0)=false:=((fo f (a:=dA (w.heap.size+1) 0) aX (λe=>aP (r (w.heap.size+1) e.symm))).trans (eF wr _ _ g)).trans (D 0));have v:=gK (eb:=w.heap.size+1) (f:=0) aR (d.alloc _) aX ((dV wr _ _ g).trans p) t f u;have x:=dn (C.o.app _ v);clear v t f H u;go_wp2;go_roundw
   ·exact⟨k+1,_,bL,aR,by rw[List.replicate_succ'];exact x.o.1,m.trans (x.o.2.mono aR)⟩
   ·exact aph
  ·clear c;go_wp2_with fail;have I:k=n:=aR;subst I;have J:(wr.setCell (dA (w.heap.size+1) 1) (.string ⟨#[48]⟩)).cell? (dA w.heap.size 0)=some (dE):=(ax (λh=>anP)).trans E;have K:((wr.setCell (dA (w.heap.size+1) 1) (.string ⟨#[48]⟩)).setCell (dA w.heap.size 0) (.slice a k b)).cell? (dA w.heap.size 1)=some (eB):=(ax (λh=>cZ)).trans ((ax (λh=>anP)).trans F);have L:=World.cell?_setCell_same _ _ (.slice a k b) J;have M:=World.cell?_setCell_same _ _ (.string ⟨#[48]⟩) K
   exact dR (.agg #[.slice a k b,str 0]) (by simp[results,results211,go_sem,L,M,Y9]) rfl ⟨⟨_,rfl,by
    rw[List.length_replicate,List.map_replicate];exact qQ (ownsRow_setCell_below (a:=dA w.heap.size 1) (ownsRow_setCell_below (a:=dA w.heap.size 0) (ownsRow_setCell_below (a:=dA (w.heap.size+1) 1) d dh _) aZ _) aZ _) aR⟩,((m.setCell aog _).setCell ae _).setCell ae _⟩
def fA (w:World)(v:Value)(zs:List Int):Prop:=gu v zs.length (λg i=>∀h:i<zs.length,w.cell? (dA g i)=some (dD (dC.dec zs[i])))
theorem fA.below (h:fA w v f)(a:dB w W):fA W v f:=
 gu.imp h λ_ _ _ b c=>(a.eT (b c))
theorem fA.fq {base:Nat}{zs:List Int}(h:w.ownsRow base 9 1 v zs.length (zs.map str)):fA w v zs:=by
 obtain⟨a,b,rfl,c,k,d⟩:=eZ h;refine⟨a,b,rfl,c,bz,λi hi=>?_⟩;obtain⟨g,e,f,_⟩:=d i hi;exact⟨g,e,λj=>by rw[f];simp[j,str]⟩
theorem FE (b:(dC.dec z).length<=n)(c:(dC.dec Z).length<=m):(dC.dec (z*Z)).length<=n+m+1:=by
 have a:=dC.pG (z*Z);have d:=dC.Af z.natAbs Z.natAbs;have e:=dC.iC z;have f:=dC.iC Z;rw[Int.natAbs_mul]at a;exact aR
theorem fH {o:Obj}{p:Addr}(h:w.cell? p=some v):(w.alloc o).cell? p=some v:=
 (((Below.refl w.heap.size w).alloc ae o).cell (aj h)).trans h
theorem VR (a:List Int)(k:Nat)(h:k<a.length):(a.take (k+1)).map str=(a.take k).map str++[str a[k]]:=by
 rw[List.take_succ_eq_append_getElem h,List.map_append];rfl
theorem MH (N O:Value)(a b:List Int)(j k g:Int)(w:World)(hs:fA w N a)(ht:fA w O b)(P:b.length=a.length)(hn:a.length<=1000000)
 (t:∀F∈a,(dC.dec F).length<=300000000000) (o:∀F∈b,(dC.dec F).length<=300000000000) (Q:(dC.dec j).length<=300000000000) (R:(dC.dec k).length<=300000000000) (S:(dC.dec g).length<=300000000000) :
 dH 212 #[.agg #[N,dD (dC.dec j)],dD (dC.dec k),.agg #[O,dD (dC.dec g)]] w λf l=>yB l w.heap.size (List.zipWith (λd e=>d+k*e) a b) (j+k*g) f/\dB w l:=by
 obtain⟨i0,hi,hz0,hz1,hz2⟩:=info_parts ni;obtain⟨T,U,rfl,akz,agN,V⟩:=hs;obtain⟨W,X,rfl,aky,agM,Y⟩:=ht;unfold maxLen at agN agM;have ajW:=dn V;have ajV:=dn Y;have HLEN:=dn P;have HBZ:=dn t;have PQ:=dn o;have Z:Hid (∀(x:Int) (h:World),(dC.dec x).length<=300000000000->dH 161 #[dD (dC.dec k),dD (dC.dec x)] h λf l=>f=dF (dD (dC.dec (k*x)))/\dB h l):=λx h hx=>RB k x h aR aR;have uM:Hid (∀(x y:Int) (h:World),(dC.dec x).length<=300000000000->(dC.dec y).length<=300000000000->dH 162 #[dD (dC.dec x),dD (dC.dec (k*y))] h λf l=>f=dF (dD (dC.dec (x+k*y)))/\dB h l):=λx y h hx hy=>vQ x (k*y) h aR (aP (FE R hy));have zt:=dn Q;have ED:=dn S;have hl1:a.length<=b.length:=aR;have hl2:b.length<=1000000:=aR;clear V Y t o R Q S P;go_enter func212,ntmps212;go_wp2_with fail
 go_loopw [8] (fun G wr=>∃(q:Nat) (vo:Value),G=dw q/\q<=a.length/\nO (w.heap.size+1+1) wr vo q (((List.zipWith (fun d e=>d+k*e) a b).take q).map str)/\dB w wr/\
  wr.cell? (dA w.heap.size 0)=some (.slice T a.length U)/\wr.cell? (dA w.heap.size 1)=some (dD (dC.dec j))/\wr.cell? (dA (w.heap.size+1) 0)=some (.slice W b.length X)/\wr.cell? (dA (w.heap.size+1) 1)=some (dD (dC.dec g))) (λG _=>a.length-(intOf G).toNat)
 case atStart=>
  have f:∀d e:Obj,((w.alloc d).alloc e).heap.size=w.heap.size+1+1:=by intro d e;simp
  have hst:=nO.start ((w.alloc (.cells #[.slice T a.length U,dD (dC.dec j)] 274)).alloc (.cells #[.slice W b.length X,dD (dC.dec g)] 274));rw[f]at hst;exact⟨0,dE,rfl,aR,hst,((ai.alloc aW _).alloc aX _).alloc aX _,fH (fH (fH aW)),fH (fH (fH aW)),fH (fH aW),fH (fH aW)⟩
 case round=>
  obtain⟨q,vo,rfl,hq,u,v,z,A,H,I⟩:=hrel;have qJ:=dn u;have hsz:=u.size
  by_cases hlt:q<a.length
  ·obtain⟨gs,hgs,cs⟩:=ajW.o q hlt;obtain⟨gt,hgt,ct⟩:=ajV.o q aR;subst hgs hgt;have ct1:=v.eT (ct aR);have cs1:=v.eT (cs hlt);have t:=HBZ.o a[q] aW;have o:=PQ.o (b[q]' aR) aW
   have jF:Hid (((List.zipWith (λd e=>d+k*e) a b).take (q+1)).map str=((List.zipWith (λd e=>d+k*e) a b).take q).map str++[dD (dC.dec (a[q]+k*b[q]' aR))]):=by
    show _=_;rw[VR _ _ aX];simp[str]
   generalize b[q]' aR=y at *;generalize a[q]=x at *;generalize ((List.zipWith (λd e=>d+k*e) a b).take q).map str=xs0 at *;clear u cs ct;go_wp2_with fail;refine(Z.o y _ o).dX λw2 m=>?_;have s0':=m.dL z aZ;have cs2:=m.eT cs1;clear cs1 ct1;go_wp2_with fail;refine(uM.o x y _ t o).dX λp J=>?_;have i:=m.dW J;have B:=dn (qJ.o.after i);have c:=B.o;have s03:=i.dL z aZ;have s13:=i.dL A aZ;have t03:=i.dL H dh;have t13:=i.dL I dh;have K:=v.dW i;have C:=c.own;obtain⟨r,s,L,hcap,hmax,_⟩:=eZ C;subst L;have hb0:=c.c0;have hf0:=c.fr;have M:=c.size;have hnb:∀D,(Value.slice r q s).ownBlock=some D->w.heap.size+1+1+2<=D:=λD hr=>(C.lt D hr).1;clear c cs2 s0' z A H I;go_wp2_with (at_builtin;refine dU rfl (.tmp 34) (.tmp 36) 45 rfl (w.heap.size+1+1+2) 9 i0 (eB) 1 16 underlying45 hi hz0 hz1 hz2 rfl aY (.slice r q s) q xs0 rfl (by exact(C.alloc _)) (dA p.heap.size 0) 1 [dD (dC.dec (x+k*y))] rfl rfl bP bX bz aR aX ?_;intro ga fD w4 hown' E hg1 hg2;have q1:w4.cell? (dA (w.heap.size+1+1+1) 0)=some (.slice r q s):=((eY E (a:=dA (w.heap.size+1+1+1) 0) aX (λf=>aP (hnb (w.heap.size+1+1+1) f.symm))).trans (dV p _ _ M)).trans hb0;have q2:w4.frozen? (dA (w.heap.size+1+1+1) 0)=false:=((fo E (a:=dA (w.heap.size+1+1+1) 0) aX (λf=>aP (hnb (w.heap.size+1+1+1) f.symm))).trans (eF p _ _ M)).trans (hf0 0));have hap:=gK (eb:=w.heap.size+1+1+1) (f:=0) aR (C.alloc _) aX ((dV p _ _ M).trans hb0) hown' E hg2;have n:=dn (B.o.app _ hap);clear hap hown' E hg1 hg2;go_wp2;go_roundw
   ·exact⟨q+1,_,bL,aR,by have bg:=jF.o;rw[bg];exact n.o.1,K.trans (n.o.2.mono aR),(n.o.2.dL s03 aZ),(n.o.2.dL s13 aZ),(n.o.2.dL t03 dh),(n.o.2.dL t13 dh)⟩
   ·exact aph
  ·clear u;have hqn:q=a.length:=aR;subst hqn;go_wp2_with fail;refine(Z.o g _ ED.o).dX λw2 m=>?_;have s1':=m.dL A aZ;go_wp2_with fail;refine(uM.o j g _ zt.o ED.o).dX λp J=>?_;have i:=m.dW J;have B:=dn (qJ.o.after i);have K:=v.dW i;have c:=B.o;have c0:=c.c0;have c1:=c.c1;have fr:=c.fr;have r0:=c.r0;have r1:=c.r1;have rf:=c.rf;obtain⟨r,s,L,hcap,hmax,_⟩:=eZ c.own;subst L;have hdn:=c.done K aR (dD (dC.dec (j+k*g)));have RU:=dn hdn;clear c hdn s1' z A H I;go_wp2_with fail;obtain⟨d0,d1,d2,d3⟩:=RU.o;refine dR (.agg #[.slice r a.length s,str (j+k*g)]) (by simp[results,results212,go_sem,d0,d1,str]) rfl ⟨⟨_,rfl,?_⟩,d3⟩;have hl:=HLEN.o;rw[List.take_of_length_le aX]at d2;rw[show(List.zipWith (λd e=>d+k*e) a b).length=a.length by simp;omega];exact d2
def big (a:Nat):Nat:=10 ^ (10*(a+1))
def low (a:Nat):Nat:=10 ^ (10*a)
theorem vK (a:Nat):big a=low a*10000000000:=by
 unfold big low;rw[show 10*(a+1)=10*a+10 by omega,Nat.pow_add]
theorem vB (a:Nat):1<=low a:=Nat.pos_of_ne_zero (by unfold low;simp)
theorem mM (h:n<m):big n<=low m:=by
 unfold big low;exact Nat.pow_le_pow_right aR aR
theorem rT (h:z.natAbs<=big n)(b:n<1000):(dC.dec z).length<=300000000000:=by
 have c:=dC.pG z;have a:z.natAbs<10 ^ (10*(n+1)+1):=Nat.lt_of_le_of_lt h (Nat.pow_lt_pow_right aR aR);have d:=dC.nD a;exact aR
theorem XB {z:Int}(h:(dC.dec z).length<=8):z.natAbs<=100000000:=by
 have a:=dC.iC z;have b:=dC.C9 z.natAbs;have c:10 ^ (dC.D z.natAbs).length<=10 ^ 8:=Nat.pow_le_pow_right aR aR;exact aR
theorem OI {y:Int}(c:z.natAbs<=n)(a:Z.natAbs<=m)(b:y.natAbs<=k):(z+Z*y).natAbs<=n+m*k:=by
 have d:(Z*y).natAbs<=m*k:=by rw[Int.natAbs_mul];exact Nat.mul_le_mul a b
 have e:=Int.natAbs_add_le z (Z*y);exact aR
theorem YN (c:∀a∈f,a.natAbs<=n)(e:z.natAbs<=m)(d:∀a∈F,a.natAbs<=k):∀a∈List.zipWith (λg i=>g+z*i) f F,a.natAbs<=n+m*k:=by
 intro a b
 induction f generalizing F with
 | nil=>simp at b
 | cons x l j=>
  cases F with
  | nil=>simp at b
  | cons y o=>
   simp only[List.zipWith_cons_cons,List.mem_cons]at b;rcases b with rfl|b
   ·exact OI (c x aW) e (d y aW)
   ·exact j (λa h=>c a aoX) (λa h=>d a aoX) b
def jR (ts:List fB)(a:Nat):Prop:=∃h:a<ts.length,ts[a].op=14\/(ts[a].op=15/\∃j,∃hj:j<ts.length,ts[a].args=[j]/\ts[j].op=14)
def zg (ts:List fB):Prop:=∀i (h:i<ts.length),ts[i].op=18->∃j k,ts[i].args=[j,k]/\jR ts j
def IM (ts:List fB)(a:Nat)(w':World)(base:Nat)(e:Ending):Prop:=
 ∃zs c,yB w' base zs c e/\zs.length=ts.length/\(∀z∈zs,z.natAbs<=big a)/\c.natAbs<=big a/\(jR ts a->c.natAbs<=100000000)
theorem Cb {size:Nat}(h:w.ownsRow n e size v m b){a:Addr}(d:v.ownBlock≠some a.block)(u:Value):(w.setCell a u).ownsRow n e size v m b:=by
 refine⟨h.1,?_⟩;rcases h.2 with f|⟨g,i,j,c,k,l,r⟩
 ·exact .inl f
 ·refine .inr ⟨g,i,j,c,k,?_,r⟩;rw[aD (λe=>d (by rw[c,<-e];rfl))];exact l
structure oK (w wx:World)(sb:Nat)(t:fB)(va:Value)(vs:Value)(zs:List Int)(c:Int):Prop where
 c0:wx.cell? (dA sb 0)=some vs
 c1:wx.cell? (dA sb 1)=some (dD (dC.dec c))
 fr:∀o,wx.frozen? (dA sb o)=false
 own:wx.ownsRow (w.heap.size+1+1) 9 1 vs zs.length (zs.map str)
 ne:vs.ownBlock≠some sb
 box:kT wx (w.heap.size+1) t va
 r0:wx.cell? (dA w.heap.size 0)=some (dE)
 r1:wx.cell? (dA w.heap.size 1)=some (eB)
 rf:∀o,wx.frozen? (dA w.heap.size o)=false
 below:dB w wx
 lo:w.heap.size+1<sb
 hi:sb<wx.heap.size
theorem oK.after (h:oK w W n X v V f z)(a:dB W u):oK w u n X v V f z:=by
 have c:=h.lo;have b:=h.hi
 exact⟨(a.dL h.c0 b),(a.dL h.c1 b),λo=>(a.gq (h.fr o) b),ownsRow_below h.own a,h.ne,h.box.below a aR,
  (a.dL h.r0 aZ),(a.dL h.r1 aZ),λo=>(a.gq (h.rf o) aZ),h.below.dW a,c,Nat.lt_of_lt_of_le b a.size⟩
theorem oK.store {c':Int}(h:oK w W n X v V f z)(b:W.ownsRow m 9 1 y F.length (F.map str))(c:n<m) :
 oK w ((W.setCell (dA n 0) y).setCell (dA n 1) (dD (dC.dec c'))) n X v y F c':=by
 have d:=h.lo;have e:=h.hi;have a:Below n W ((W.setCell (dA n 0) y).setCell (dA n 1) (dD (dC.dec c'))):=((Below.refl n W).setCell ae _).setCell ae _
 refine⟨?_,?_,λo=>by rw[World.frozen?_setCell,World.frozen?_setCell];exact h.fr o,qQ (ownsRow_setCell_below (a:=dA n 1) (ownsRow_setCell_below (a:=dA n 0) b c _) c _) aR,?_,h.box.below a d,
  (a.dL h.r0 aZ),(a.dL h.r1 aZ),λo=>(a.gq (h.rf o) aZ),h.below.trans (a.mono aR),d,Nat.lt_of_lt_of_le e a.size⟩
 ·rw[ax (λh=>cZ)];exact aC h.c0
 ·exact aC ((ax (λh=>cZ)).trans h.c1)
 ·intro g;have:=(b.lt n g).1;exact aR
theorem oK.done (h:oK w W n X v V f z)(u:Value) :
 (W.setCell (dA w.heap.size 0) V).cell? (dA w.heap.size 0)=some V/\((W.setCell (dA w.heap.size 0) V).setCell (dA w.heap.size 1) u).cell? (dA w.heap.size 1)=some u/\
 ((W.setCell (dA w.heap.size 0) V).setCell (dA w.heap.size 1) u).ownsRow w.heap.size 9 1 V f.length (f.map str)/\dB w ((W.setCell (dA w.heap.size 0) V).setCell (dA w.heap.size 1) u):=by
 exact⟨World.cell?_setCell_same _ _ V h.r0,World.cell?_setCell_same _ _ u ((ax (λh=>cZ)).trans h.r1),qQ (ownsRow_setCell_below (a:=dA w.heap.size 1) (ownsRow_setCell_below (a:=dA w.heap.size 0) h.own aZ _) aZ _) aR,
  (h.below.setCell ae _).setCell ae _⟩
theorem yB.o (b:yB w n f z h):∃a,h=dF (.agg #[a,dD (dC.dec z)])/\w.ownsRow n 9 1 a f.length (f.map str):=b
theorem oK.Mt (h:oK w W n X v V f z)(b:Int):oK w (W.setCell (dA n 1) (dD (dC.dec b))) n X v V f b:=by
 have c:=h.lo;have d:=h.hi;have a:Below n W (W.setCell (dA n 1) (dD (dC.dec b))):=(Below.refl n W).setCell ae _
 exact⟨(ax (λh=>cZ)).trans h.c0,aC h.c1,λo=>by rw[World.frozen?_setCell];exact h.fr o,Cb h.own h.ne _,h.ne,h.box.below a c,
  (a.dL h.r0 aZ),(a.dL h.r1 aZ),λo=>(a.gq (h.rf o) aZ),h.below.trans (a.mono aR),c,Nat.lt_of_lt_of_le d a.size⟩
theorem oK.Zg (h:oK w W n X v (dJ m k i) f z)(d:k=f.length)(j:Nat)(b:Int):oK w (W.setCell (dA m j) (dD (dC.dec b))) n X v (dJ m k i) (f.set j b) z:=by
 subst d;have e:=h.lo;have g:=h.hi;obtain⟨q,_⟩:=h.own.lt m rfl;have l:m≠n:=λp=>h.ne (by rw[<-p];rfl);have a:Below m W (W.setCell (dA m j) (dD (dC.dec b))):=(Below.refl m W).setCell ae _;have c:∀o,(W.setCell (dA m j) (dD (dC.dec b))).cell? (dA n o)=W.cell? (dA n o):=λo=>ax (λh=>l amM)
 exact⟨(c 0).trans h.c0,(c 1).trans h.c1,λo=>by rw[World.frozen?_setCell];exact h.fr o,by rw[List.length_set,List.map_set];exact(h.own.stored j _).1,h.ne,h.box.below a aR,
  (a.dL h.r0 aZ),(a.dL h.r1 aZ),λo=>(a.gq (h.rf o) aZ),h.below.trans (a.mono aR),e,Nat.lt_of_lt_of_le g a.size⟩
theorem Vn (n a:Nat):∀z∈List.replicate n (0:Int),z.natAbs<=big a:=by
 intro z b;rw[(List.mem_replicate.1 b).2];exact aW
theorem VT (h:n<=100000000):n<=big m:=by
 rw[vK];have:=vB m;exact aR
theorem oK.called (h:oK w W n X v V f z)(b:dB W u)(a:Obj):oK w (u.alloc a) n X v V f z:=
 (h.after b).after (af.alloc ae a)
theorem A9 {c k d:Int}{A K B:Nat}(x:w.ownsRow n 9 1 v f.length (f.map str))(y:w.ownsRow m 9 1 V F.length (F.map str))(H:f.length=i)(I:F.length=i)(J:i<=1000)
 {a:Nat} (b:a<1000) (o:∀z∈f,z.natAbs<=A) (p:∀z∈F,z.natAbs<=B) (q:c.natAbs<=A) (h:k.natAbs<=K) (r:d.natAbs<=B) (s:A<=big a) (C:K<=big a) (t:B<=big a) :
 dH 212 #[.agg #[v,dD (dC.dec c)],dD (dC.dec k),.agg #[V,dD (dC.dec d)]] w λu j=>(∃(e:List Int) (g:Value),u=dF (.agg #[g,dD (dC.dec (c+k*d))])/\j.ownsRow w.heap.size 9 1 g e.length (e.map str)/\e.length=i/\(∀z∈e,z.natAbs<=A+K*B)/\(c+k*d).natAbs<=A+K*B)/\dB w j:=by
 refine(MH v V f F c k d w (fA.fq x) (fA.fq y) aR aR (λz l=>rT (Nat.le_trans (o z l) s) b) (λz l=>rT (Nat.le_trans (p z l) t) b) (rT (Nat.le_trans q s) b) (rT (Nat.le_trans h C) b) (rT (Nat.le_trans r t) b)).mono ?_;rintro u j ⟨⟨g,D,E⟩,G⟩;exact⟨⟨_,g,D,E,aX,YN o h p,OI q h r⟩,G⟩
theorem BL (n a:Nat):∀z∈List.replicate n (0:Int),z.natAbs<=a:=by
 intro z b;rw[(List.mem_replicate.1 b).2];exact aW
theorem Wx (pb bb:Nat)(c:List fB)(held:List Nat)(cs:List (List Lit))(hts:c.length<=1000)(hwf:jQ c)(ru:zg c):∀(a:Nat) (w:World),iE w pb bb c held cs->a<c.length->
 dH 210 #[dK pb 0,dw a] w λf U=>IM c a U w.heap.size f/\dB w U:=by
 intro a
 induction a using Nat.strongRecOn with
 | _ a ih=>
 intro w i ha;have IH:Hid (∀j,j<a->∀U,dB w U->dH 210 #[dK pb 0,dw j] U λf w''=>IM c j w'' U.heap.size f/\dB U w''):=λj hj U hb=>ih j hj U (i.below hb) aR;obtain⟨bA,lL,aA,mY,hlk⟩:=i.look ha;have C:=dn (hwf a ha);have pO:=dn hlk.arg;have Ac:Hid (c[a].op≠14->c[a].op≠15->¬jR c a):=λX Y ⟨_,h⟩=>by rcases h with h|⟨h,_⟩<;>omega
 have GD:Hid (c[a].op=15->jR c a->∀j,c[a].args=[j]->jR c j):=λX ⟨_,h⟩ j hj=>by
  rcases h with h|⟨_,j',hj',Y,h3⟩
  ·exact aR
  ·rw[hj]at Y;injection Y with Y;subst Y;exact⟨hj',.inl h3⟩
 have I5:=dn (ru a ha);obtain⟨r1,r2,r3,r4,r5,r6,r7,r8,r9,Kh,Q5,_,_⟩:=hlk;generalize c[a]=t at *;have l3:pb<w.heap.size:=aj r3;have l4:bb<w.heap.size:=aj r4;have l5:bA<w.heap.size:=aj r5;have x3:=fH (o:=.cells #[dE,eB] 274) r3;have x4:=fH (o:=.cells #[dE,eB] 274) r4;have x5:=fH (o:=.cells #[dE,eB] 274) r5;have x6:=fH (o:=.cells #[dE,eB] 274) r6;have x7:=fH (o:=.cells #[dE,eB] 274) r7;have x8:=fH (o:=.cells #[dE,eB] 274) r8;have x9:=fH (o:=.cells #[dE,eB] 274) r9;clear i hwf ru ih;go_enter func210,ntmps210;go_upto_region 1 with fail
 go_cut [5] (fun bn Z=>bn=dK (w.heap.size+1) 0/\kT Z (w.heap.size+1) t (.slice aA t.args.length mY)/\Z.dQ w.heap.size 0=some (dE)/\Z.dQ w.heap.size 1=some (eB)/\(∀o,Z.uV w.heap.size o=false)/\dB w Z/\w.heap.size+1<Z.heap.size)
 case first=>
  go_wp2;go_meet
  ·exact⟨rfl,⟨aW,aW,aW,aW,aW⟩,aW,aW,al7,ai.alloc aW _,aW⟩
 case rest=>
  obtain⟨rfl,nJ,z0,z1,zf,hbel,hsz⟩:=hcut;have pM:=dn nJ;have r3':=(hbel.cell (aj r3)).trans r3;have r4':=(hbel.cell (aj r4)).trans r4;clear r3 r4 r5 r6 r7 r8 r9 x3 x4 x5 x6 x7 x8 x9 nJ;go_upto_region 2 with fail
  go_cut [6] (fun bn Z=>∃sb vs,bn=dK sb 0/\oK w Z sb t (.slice aA t.args.length mY) vs (List.replicate c.length 0) 0)
  case first=>
   go_wp2_with fail;refine(BM c.length _ aR).mono ?_;rintro f w3 ⟨g,hb3⟩;obtain⟨vs,rfl,hown⟩:=g.o;obtain⟨ao,cap,hvs,_,_,_⟩:=eZ hown;rw[List.length_replicate]at hvs;subst hvs;have HOWN:=dn hown;rw[dC.gV];clear g hown;go_wp2;go_meet
   case rel=>
    have hbt:=hb3.trans ((Below.refl w3.heap.size w3).alloc ae (.cells #[.slice ao c.length cap,.string ⟨#[48]⟩] 274) |>.mono hb3.size);have hs3:=hb3.size
    exact⟨_,.slice ao c.length cap,rfl,aW,by rw[dC.gV];simp,al7,qQ (by have h:=HOWN.o.alloc (.cells #[.slice ao c.length cap,.string ⟨#[48]⟩] 274);exact h) aR,λf=>aP ((HOWN.o.lt _ f).2),pM.o.below hbt hsz,
     (hbt.dL z0 aZ),(hbt.dL z1 aZ),λo=>(hbt.gq (zf o) aZ),hbel.dW hbt,aR,aW⟩
  case rest=>
   obtain⟨sb,vs,rfl,n⟩:=hcut;have p:=dn n;have b0:=n.box.text;have b1:=n.box.op;have b4:=n.box.args;have s0:=n.c0;have s1:=n.c1;have sf:=n.fr;have y0:=n.r0;have y1:=n.r1;have yf:=n.rf;have hlo:=n.lo;have hhi:=n.hi;obtain⟨ao,cap,hvs,hcap,hmax,hel⟩:=eZ n.own;rw[List.length_replicate]at hvs hcap hel;subst hvs;clear n z0 z1 zf hsz r3' r4' pM hbel
   by_cases Oi:t.op=14
   ·have t14:((t.op:Int)==14)=true:=bM;obtain⟨z,r,hz8⟩:=C.o.num Oi;have D:=dn (p.o.Mt z);go_wp2_with fail;obtain⟨E,F,G,H⟩:=D.o.done (dD (dC.dec z));have hzs:=XB (z:=z) (by rw[<-r];exact hz8);exact dR (.agg #[.slice ao c.length cap,dD (dC.dec z)]) amc rfl ⟨⟨_,z,⟨_,rfl,G⟩,aW,Vn _ _,VT hzs,λ_=>hzs⟩,H⟩
   ·have t14:((t.op:Int)==14)=false:=ak aR
    by_cases Dh:t.op=15
    ·have t15:((t.op:Int)==15)=true:=bM;have X:=C.o.one (.inr Dh);obtain⟨gA,hgA,P,cA⟩:=pO.o 0 aR;subst hgA;have I:=C.o.args (t.args[0]' aR) aW
     have HJ:Hid (jR c a->jR c (t.args[0]' aR)):=λh=>GD.o Dh h _ (by
      apply List.ext_getElem
      ·simp[X]
      ·intro bq hi1 hi2;simp at hi2;subst hi2;simp)
     have Rs:=p.o.below.dL cA P;generalize t.args[0]' aR=j at *;have Y:0<t.args.length:=aR;clear X Oi Dh;go_wp2_with fail;refine(IH.o j I _ p.o.below).mono ?_;rintro f J ⟨⟨s,d,g,x,K,L,V⟩,hb4⟩;obtain⟨vu,rfl,l⟩:=g.o;obtain⟨u,v,hvu,_,_,_⟩:=eZ l;subst hvu;have y:=mM I;have hbb:=vK a;have hlp:=vB a;have e:=dn (p.o.called hb4 (.cells #[.slice u s.length v,dD (dC.dec d)] 274));have i:=A9 (k:=-1) (K:=1) (A:=0) (c:=0) (d:=d) e.o.own (l.alloc (.cells #[.slice u s.length v,dD (dC.dec d)] 274)) (List.length_replicate) x hts (a:=a) aR (BL _ _) K aW aW L aR aR aR;rw[dC.rQ]at i;have HP:=dn i;have e0:=e.o.c0;have e1:=e.o.c1;have HUN:=dn V;have HOU:=dn l;have IX:=dn x;have uL:=dn y;have nG:=dn hbb;clear g i K L V l x y hbb s0 s1 y0 y1 b0 b1 b4;go_wp2_with fail;refine HP.o.mono ?_;generalize hcc:0+-1*d=k at *;have xH:=dn hcc;clear hcc;rintro f w6 ⟨⟨Q,v6,rfl,m,M,hb6,hc6⟩,sG⟩;obtain⟨a6,cap6,hv6,_,_,_⟩:=eZ m;subst hv6;have b:=(e.o.after sG);have D:=dn (b.store (c':=k) m (by exact e.o.hi));have f0:=b.c0;have f1:=b.c1;have ff:=b.fr;have g0:=b.r0;have g1:=b.r1;have gf:=b.rf;have Px:=dn M;clear b M m;go_wp2_with fail;obtain⟨E,F,G,H⟩:=D.o.done (dD (dC.dec k));exact dR (.agg #[.slice a6 Q.length cap6,dD (dC.dec k)]) amc rfl ⟨⟨Q,k,⟨_,rfl,G⟩,Px.o,λz r=>Nat.le_trans (hb6 z r) (aQ uL.o nG.o),Nat.le_trans hc6 (aQ uL.o nG.o),λN=>by have h:=HUN.o (HJ.o N);have:=xH.o;omega⟩,H⟩
    ·have t15:((t.op:Int)==15)=false:=ak aR;have FT:Hid (¬jR c a):=Ac.o Oi Dh
     by_cases Xi:t.op=17
     ·have t17:((t.op:Int)==17)=true:=bM;have X:=C.o.two (by simp[Xi]);obtain⟨gA,hgA,P,cA⟩:=pO.o 0 aR;obtain⟨gB,O,_,cB⟩:=pO.o 1 aR;subst hgA;injection O with O
      injection O with O;subst O;have I:=C.o.args (t.args[0]' aR) aW;have hjb:=C.o.args (t.args[1]' aR) aW;have Rs:=p.o.below.dL cA P;generalize t.args[0]' aR=j at *;generalize t.args[1]' aR=j2 at *;have Y:1<t.args.length:=aR;clear X Oi Dh Xi;go_wp2_with fail;refine(IH.o j I _ p.o.below).mono ?_;rintro f J ⟨⟨s,d,g,x,K,L,V⟩,hb4⟩;obtain⟨vu,rfl,l⟩:=g.o;obtain⟨u,v,hvu,_,_,_⟩:=eZ l;subst hvu;have e:=dn (p.o.called hb4 (.cells #[.slice u s.length v,dD (dC.dec d)] 274));have cB':=e.o.below.dL cB P;have e4:=e.o.box.args;have HOU:=dn (l.alloc (.cells #[.slice u s.length v,dD (dC.dec d)] 274));have IX:=dn x;have IY:=dn K;have HUD:=dn L;clear g l x K L V s0 s1 y0 y1 b0 b1 b4;go_wp2_with fail;refine(IH.o j2 hjb _ e.o.below).mono ?_;rintro f w5 ⟨⟨R,q,g,NF,DV,DU,aai⟩,W⟩;obtain⟨vu2,rfl,Gp⟩:=g.o;obtain⟨S,T,NB,_,_,_⟩:=eZ Gp;subst NB;have H7:=dn (e.o.called W (.cells #[.slice S R.length T,dD (dC.dec q)] 274));have y:=mM I;have hbc:=mM hjb;have hbb:=vK a;have hlp:=vB a;have i:=A9 (k:=-1) (K:=1) (A:=low a) (B:=low a) (c:=d) (d:=q) (ownsRow_below HOU.o (W.trans (af.alloc ae (.cells #[.slice S R.length T,dD (dC.dec q)] 274) |>.mono W.size))) (Gp.alloc (.cells #[.slice S R.length T,dD (dC.dec q)] 274)) IX.o NF hts (a:=a) aR (λz h=>Nat.le_trans (IY.o z h) y) (λz h=>Nat.le_trans (DV z h) hbc) (Nat.le_trans HUD.o y) aW (Nat.le_trans DU hbc) aR aR aR;rw[dC.rQ]at i;have HP:=dn i;have e0:((w5.alloc (.cells #[.slice S R.length T,dD (dC.dec q)] 274))).dQ J.heap.size 0=some (.slice u s.length v):=fH ((W.cell (p:=dA J.heap.size 0) aW).trans aW);have e1:((w5.alloc (.cells #[.slice S R.length T,dD (dC.dec q)] 274))).dQ J.heap.size 1=some (dD (dC.dec d)):=fH ((W.cell (p:=dA J.heap.size 1) aW).trans aW);have nG:=dn hbb;have HLP:=dn hlp;clear g i NF DV DU aai Gp y hbc hbb hlp cB' e4;go_wp2_with fail;refine HP.o.mono ?_;generalize hcc:d+-1*q=k at *;exact apB
     ·have t17:((t.op:Int)==17)=false:=ak aR
      by_cases h16:t.op=16
      ·have t16:((t.op:Int)==16)=true:=bM;have qB:=C.o.few;have YB:=dn (vB a);have BH:=dn (vK a);clear s0 s1 y0 y1 b0 b4 Oi Dh Xi h16;go_wp2_with fail
       go_loopw [10] (fun bq wr=>∃(A:Nat) (vs:Value) (zs:List Int) (bg:Int),bq=dw A/\A<=t.args.length/\oK w wr sb t (.slice aA t.args.length mY) vs zs bg/\zs.length=c.length/\(∀z∈zs,z.natAbs<=A*low a)/\bg.natAbs<=A*low a) (fun bq _=>t.args.length-(intOf bq).toNat)
       ·exact⟨0,_,_,0,rfl,aR,p.o,aW,BL _ _,aW⟩
       case round=>
        obtain⟨A,vq,zs,bg,rfl,hq,B,hzl,hzb,hcb⟩:=hrel;have H2:=dn B;have s4:=B.box.args;have s0:=B.c0;have s1:=B.c1;have sf2:=B.fr;obtain⟨KS,cap2,ahM,hcap2,akx,_⟩:=eZ B.own;subst ahM;have zh:=dn hzl;have HZB:=dn hzb;have rZ:=dn hcb;have HQ4:Hid (A*low a<=4*low a):=Nat.mul_le_mul_right _ aR
        by_cases hlt:A<t.args.length
        ·obtain⟨gA,hgA,P,cA⟩:=pO.o A hlt;subst hgA;have I:=C.o.args t.args[A] aW;have Rs:=B.below.dL cA P;generalize t.args[A]=j at *;clear B hzl hzb hcb cA;go_wp2_with fail;refine(IH.o j I _ H2.o.below).mono ?_;rintro f J ⟨⟨s,d,g,x,K,L,V⟩,hb4⟩;obtain⟨vu,rfl,l⟩:=g.o;obtain⟨u,v,hvu,_,_,_⟩:=eZ l;subst hvu;have e:=dn (H2.o.called hb4 (.cells #[.slice u s.length v,dD (dC.dec d)] 274));have y:=mM I;have i:=A9 (k:=1) (K:=1) (A:=A*low a) (B:=low a) (c:=bg) (d:=d) e.o.own (l.alloc (.cells #[.slice u s.length v,dD (dC.dec d)] 274)) zh.o x hts (a:=a) aR HZB.o (λz h=>Nat.le_trans (K z h) y) rZ.o aW (Nat.le_trans L y) (by have:=HQ4.o;have:=BH.o;have:=YB.o;omega) (aQ BH.o YB.o) (aQ BH.o YB.o);rw[dC.lD]at i;have HP:=dn i;have e0:=e.o.c0;have e1:=e.o.c1;clear g i K L V l x y s0 s1 s4 sf2;go_wp2_with fail;refine HP.o.mono ?_;generalize bg+1*d=k at *;rintro f w6 ⟨⟨Q,v6,rfl,m,M,hb6,hc6⟩,sG⟩;obtain⟨a6,cap6,hv6,_,_,_⟩:=eZ m;subst hv6;have b:=(e.o.after sG);have D:=dn (b.store (c':=k) m (by exact e.o.hi));have f0:=b.c0;have f1:=b.c1;have ff:=b.fr;have Px:=dn M;have R6:=dn hb6;have HC6:=dn hc6;clear b M m hb6 hc6 e0 e1;go_wp2;go_roundw
         ·exact⟨A+1,_,Q,k,bL,aR,D.o,Px.o,λz r=>by rw[Nat.add_mul];exact R6.o z r,by rw[Nat.add_mul];exact HC6.o⟩
         ·exact aph
        ·have g0:=B.r0;have g1:=B.r1;have gf:=B.rf;clear B hzl hzb hcb;go_wp2_with fail;obtain⟨E,F,G,H⟩:=H2.o.done (dD (dC.dec bg));have hq4:=HQ4.o;have hbl:=BH.o;exact dR (.agg #[.slice KS zs.length cap2,dD (dC.dec bg)]) amc rfl ⟨⟨zs,bg,⟨_,rfl,G⟩,zh.o,λz r=>aP (HZB.o z r),aP rZ.o,λN=>absurd N FT.o⟩,H⟩
      ·have t16:((t.op:Int)==16)=false:=ak aR
       by_cases h18:t.op=18
       ·have t18:((t.op:Int)==18)=true:=bM;have X:=C.o.two (by simp[h18]);obtain⟨gA,hgA,P,cA⟩:=pO.o 0 aR;obtain⟨gB,O,_,cB⟩:=pO.o 1 aR;subst hgA;injection O with O
        injection O with O;subst O;have I:=C.o.args (t.args[0]' aR) aW;have hjb:=C.o.args (t.args[1]' aR) aW;have Rs:=p.o.below.dL cA P
        have HJN:Hid (jR c (t.args[0]' aR)):=by
         show jR c _;obtain⟨bB,bn,hxy,N⟩:=I5.o h18;have f:t.args[0]' aR=bB:=by simp[hxy]
         rw[f];exact N
        generalize t.args[0]' aR=j at *;generalize t.args[1]' aR=j2 at *;have Y:1<t.args.length:=aR;clear X Oi Dh h16 Xi h18;go_wp2_with fail;refine(IH.o j I _ p.o.below).mono ?_;rintro f J ⟨⟨s,d,g,x,K,L,V⟩,hb4⟩;obtain⟨vu,rfl,l⟩:=g.o;obtain⟨u,v,hvu,_,_,_⟩:=eZ l;subst hvu;have e:=dn (p.o.called hb4 (.cells #[.slice u s.length v,dD (dC.dec d)] 274));have cB':=e.o.below.dL cB P;have e4:=e.o.box.args;have HOU:=dn (l.alloc (.cells #[.slice u s.length v,dD (dC.dec d)] 274));have IX:=dn x;have IY:=dn K;have HUD:=dn L;have HD8:=dn (V HJN.o);clear g l x K L V s0 s1 y0 y1 b0 b1 b4;go_wp2_with fail;refine(IH.o j2 hjb _ e.o.below).mono ?_;rintro f w5 ⟨⟨R,q,g,NF,DV,DU,aai⟩,W⟩;obtain⟨vu2,rfl,Gp⟩:=g.o;obtain⟨S,T,NB,_,_,_⟩:=eZ Gp;subst NB;have H7:=dn (e.o.called W (.cells #[.slice S R.length T,dD (dC.dec q)] 274));have y:=mM I;have hbc:=mM hjb;have hbb:=vK a;have hlp:=vB a;have i:=A9 (k:=d) (K:=100000000) (A:=0) (B:=low a) (c:=0) (d:=q) H7.o.own (Gp.alloc (.cells #[.slice S R.length T,dD (dC.dec q)] 274)) (List.length_replicate) NF hts (a:=a) aR (BL _ _) (λz h=>Nat.le_trans (DV z h) hbc) aW HD8.o (Nat.le_trans DU hbc) aR aR aR;have m0:=H7.o.c0;have m1:=H7.o.c1;have HP:=dn i;have e0:((w5.alloc (.cells #[.slice S R.length T,dD (dC.dec q)] 274))).dQ J.heap.size 0=some (.slice u s.length v):=fH ((W.cell (p:=dA J.heap.size 0) aW).trans aW);have e1:((w5.alloc (.cells #[.slice S R.length T,dD (dC.dec q)] 274))).dQ J.heap.size 1=some (dD (dC.dec d)):=fH ((W.cell (p:=dA J.heap.size 1) aW).trans aW);have nG:=dn hbb;have HLP:=dn hlp;clear g i NF DV DU aai Gp y hbc hbb hlp cB' e4;go_wp2_with fail;refine HP.o.mono ?_;generalize hcc:0+d*q=k at *;exact apB
       ·have t18:((t.op:Int)==18)=false:=ak aR;obtain⟨g2,hg2,hc2,hf2⟩:=hel a ha;subst hg2;have hc3:wc.cell? (dA g2 a)=some (str 0):=by rw[hc2];simp[ha]
        have hf:=p.o.Zg aW a 1;rw[dC.lD]at hf;have D:=dn hf;have BH:=dn (vK a);have YB:=dn (vB a);have nn:=p.o.ne;have n1:g2≠sb:=λf=>nn (by rw[<-f];rfl);have n2:=n1.symm;have P:=(p.o.own.lt g2 rfl).1;clear hf hel hc2 Oi Dh h16 Xi h18 nn;go_wp2_with fail;obtain⟨E,F,G,H⟩:=D.o.done (dD (dC.dec 0))
        exact dR (.agg #[dJ g2 c.length cap,dD (dC.dec 0)]) amc rfl ⟨⟨_,0,⟨_,rfl,G⟩,aW,λz r=>by
         rcases List.mem_or_eq_of_mem_set r with h|h
         ·exact BL _ _ z h
         ·subst h;have:=BH.o;have:=YB.o;simp;omega,aW,λN=>absurd N FT.o⟩,H⟩
structure Dk (w wx:World)(sb:Nat)(vs:Value)(zs:List Int)(c:Int):Prop where
 c0:wx.cell? (dA sb 0)=some vs
 c1:wx.cell? (dA sb 1)=some (dD (dC.dec c))
 fr:∀o,wx.frozen? (dA sb o)=false
 own:wx.ownsRow (w.heap.size+1) 9 1 vs zs.length (zs.map str)
 ne:vs.ownBlock≠some sb
 r0:wx.cell? (dA w.heap.size 0)=some (dE)
 r1:wx.cell? (dA w.heap.size 1)=some (eB)
 rf:∀o,wx.frozen? (dA w.heap.size o)=false
 below:dB w wx
 lo:w.heap.size<sb
 hi:sb<wx.heap.size
theorem Dk.after (h:Dk w W n v f z)(a:dB W u):Dk w u n v f z:=by
 have c:=h.lo;have b:=h.hi
 exact⟨(a.dL h.c0 b),(a.dL h.c1 b),λo=>(a.gq (h.fr o) b),ownsRow_below h.own a,h.ne,
  (a.dL h.r0 aZ),(a.dL h.r1 aZ),λo=>(a.gq (h.rf o) aZ),h.below.dW a,c,Nat.lt_of_lt_of_le b a.size⟩
theorem Dk.store {c':Int}(h:Dk w W n v f z)(b:W.ownsRow m 9 1 V F.length (F.map str))(c:n<m) :
 Dk w ((W.setCell (dA n 0) V).setCell (dA n 1) (dD (dC.dec c'))) n V F c':=by
 have d:=h.lo;have e:=h.hi;have a:Below n W ((W.setCell (dA n 0) V).setCell (dA n 1) (dD (dC.dec c'))):=((Below.refl n W).setCell ae _).setCell ae _
 refine⟨?_,?_,λo=>by rw[World.frozen?_setCell,World.frozen?_setCell];exact h.fr o,qQ (ownsRow_setCell_below (a:=dA n 1) (ownsRow_setCell_below (a:=dA n 0) b c _) c _) aR,?_,
  (a.dL h.r0 aZ),(a.dL h.r1 aZ),λo=>(a.gq (h.rf o) aZ),h.below.trans (a.mono aR),d,Nat.lt_of_lt_of_le e a.size⟩
 ·rw[ax (λh=>cZ)];exact aC h.c0
 ·exact aC ((ax (λh=>cZ)).trans h.c1)
 ·intro g;have:=(b.lt n g).1;exact aR
theorem Dk.Mt (h:Dk w W n v f z)(b:Int):Dk w (W.setCell (dA n 1) (dD (dC.dec b))) n v f b:=by
 have c:=h.lo;have d:=h.hi;have a:Below n W (W.setCell (dA n 1) (dD (dC.dec b))):=(Below.refl n W).setCell ae _
 exact⟨(ax (λh=>cZ)).trans h.c0,aC h.c1,λo=>by rw[World.frozen?_setCell];exact h.fr o,Cb h.own h.ne _,h.ne,
  (a.dL h.r0 aZ),(a.dL h.r1 aZ),λo=>(a.gq (h.rf o) aZ),h.below.trans (a.mono aR),c,Nat.lt_of_lt_of_le d a.size⟩
theorem Dk.done (h:Dk w W n v f z)(u:Value) :
 (W.setCell (dA w.heap.size 0) v).cell? (dA w.heap.size 0)=some v/\((W.setCell (dA w.heap.size 0) v).setCell (dA w.heap.size 1) u).cell? (dA w.heap.size 1)=some u/\
 ((W.setCell (dA w.heap.size 0) v).setCell (dA w.heap.size 1) u).ownsRow w.heap.size 9 1 v f.length (f.map str)/\dB w ((W.setCell (dA w.heap.size 0) v).setCell (dA w.heap.size 1) u):=by
 exact⟨World.cell?_setCell_same _ _ v h.r0,World.cell?_setCell_same _ _ u ((ax (λh=>cZ)).trans h.r1),qQ (ownsRow_setCell_below (a:=dA w.heap.size 1) (ownsRow_setCell_below (a:=dA w.heap.size 0) h.own aZ _) aZ _) aR,
  (h.below.setCell ae _).setCell ae _⟩
theorem uy {z:Int}{a:Nat}(h:z.natAbs<=big a):(dC.dec z).length<=10*(a+1)+2:=by
 have c:=dC.pG z;have b:z.natAbs<10 ^ (10*(a+1)+1):=Nat.lt_of_le_of_lt h (Nat.pow_lt_pow_right aR aR);have d:=dC.nD b;exact aR
theorem aba (a:Nat):big a=low (a+1):=rfl
def OV (n:Nat)(w':World)(base:Nat)(e:Ending):Prop:=
 ∃zs c,yB w' base zs c e/\zs.length=n/\(∀z∈zs,z.natAbs<=big 1000)/\c.natAbs<=big 1000
theorem Tv (n K:Nat)(c:List fB)(held:List Nat)(L:List (List Lit))(M:c.length<=1000)(N:jQ c)(O:zg c)(p q:Nat)(m:Int)(w:World)(g:iE w n K c held L)(ha:p<c.length)(hb:q<c.length)(y:m.natAbs<=1) :
 dH 209 #[dK n 0,dw p,dw q,dD (dC.dec m)] w λe a=>OV c.length a w.heap.size e/\dB w a:=by
 have P:Hid (∀(j:Nat) (a:World),j<c.length->dB w a->dH 210 #[dK n 0,dw j] a λe Q=>IM c j Q a.heap.size e/\dB a Q):=λj a hj hbw=>Wx n K c held L M N O j a (g.below hbw) hj;have HA:=dn (mM (show p<1000 by omega));have HB:=dn (mM (show q<1000 by omega));have A:=dn (vK 1000);have B:=dn (vB 1000);have R:=dn y;clear g N O y;go_enter func209,ntmps209;go_wp2_with fail;have S:dB w (w.alloc (.cells #[dE,eB] 274)):=ai;refine(P.o p _ ha S).mono ?_;rintro e r ⟨⟨s,h,i,T,U,V,_⟩,t⟩;obtain⟨vu,rfl,u⟩:=i.o;obtain⟨C,D,hvu,_,_,_⟩:=eZ u;subst hvu;have hs1:=t.size;simp only[World.size_alloc]at hs1;have k:=t.trans ((Below.refl r.heap.size r).alloc ae (.cells #[.slice C s.length D,dD (dC.dec h)] 274) |>.mono t.size)
 have X:Hid (Dk w (r.alloc (.cells #[.slice C s.length D,dD (dC.dec h)] 274)) r.heap.size (.slice C s.length D) s h):=
  ⟨aW,aW,al7,qQ (u.alloc _) aW,λe=>aP ((u.lt _ e).2),(k.cell (p:=dA w.heap.size 0) aW).trans aW,(k.cell (p:=dA w.heap.size 1) aW).trans aW,λo=>(k.frozen (p:=dA w.heap.size o) aW).trans aW,S.trans (k.mono aW),aR,aW⟩
 have IX:=dn T;have IY:=dn U;have HUD:=dn V;clear i T U V u k t;go_wp2_with fail;refine(P.o q _ hb X.o.below).mono ?_;rintro e w2 ⟨⟨Y,v,i,Z,DV,DU,_⟩,hb2⟩;obtain⟨vu2,rfl,E⟩:=i.o;obtain⟨au2,acw,NB,_,_,_⟩:=eZ E;subst NB;have l:=dn ((X.o.after hb2).after (af.alloc ae (.cells #[.slice au2 Y.length acw,dD (dC.dec v)] 274)));have F:=HA.o;have G:=HB.o;have hbb:=A.o;have hlp:=B.o;have h99:big 999=low 1000:=aba 999;have g:=A9 (k:=-1) (K:=1) (A:=low 1000) (B:=low 1000) (c:=h) (d:=v) l.o.own (E.alloc (.cells #[.slice au2 Y.length acw,dD (dC.dec v)] 274)) IX.o Z M (a:=999) aR (λz H=>Nat.le_trans (IY.o z H) F) (λz H=>Nat.le_trans (DV z H) G) (Nat.le_trans HUD.o F) aW (Nat.le_trans DU G) aR aR aR;rw[dC.rQ]at g;have HP:=dn g;have e0:=l.o.c0;have e1:=l.o.c1;clear i g Z DV DU E F G hbb hlp h99;go_wp2_with fail;refine HP.o.mono ?_;generalize h+-1*v=d at *;rintro e w3 ⟨⟨ys,v3,rfl,I,hl3,hb3,hc3⟩,TY⟩;obtain⟨a3,aiF,hv3,_,_,_⟩:=eZ I;subst hv3;have f:=l.o.after TY;have H3:=dn (f.store (c':=d) I (by exact l.o.hi));have f0:=f.c0;have f1:=f.c1;have ff:=f.fr;have k1:=H3.o.c1;have Eu:=dn hl3;have HB3:=dn hb3;have oQ:=dn hc3
 have uM:Hid (∀W:World,dH 162 #[dD (dC.dec d),dD (dC.dec m)] W λe a=>e=dF (dD (dC.dec (d+m)))/\dB W a):=λW=>by
  have hbl:=A.o;have WZ:=B.o;have y:=R.o
  exact vQ d m W (by
   have h1:=uy (z:=d) (a:=1000) (aP oQ.o);omega) (by
   have h1:=dC.pG m;have J:m.natAbs<10 ^ 1:=aR;have f:=dC.nD J;omega)
 clear f hl3 I hb3 hc3 e0 e1;go_wp2_with fail;refine(uM.o _).mono ?_;generalize Fx:d+m=x at *;rintro e w4 ⟨rfl,hb4⟩;have FX:=dn Fx;have b:=H3.o.after hb4;have H4:=dn (b.Mt x);have p0:=b.c0;have p1:=b.c1;have pf:=b.fr;have q0:=b.r0;have q1:=b.r1;have qf:=b.rf;have hlo:=b.lo;clear b f0 f1 ff k1 Fx hb4;go_wp2_with fail;obtain⟨d0,d1,d2,d3⟩:=H4.o.done (dD (dC.dec x));have hbl:=A.o;have WZ:=B.o;exact dR (.agg #[.slice a3 ys.length aiF,dD (dC.dec x)]) (by simp[results,results209,go_sem,d0,d1]) rfl ⟨⟨ys,x,⟨_,rfl,d2⟩,Eu.o,λz hz=>aP (HB3.o z hz),by have h1:=oQ.o;have J:=FX.o;have f:=R.o;have b:=Int.natAbs_add_le d m;rw[J]at b;omega⟩,d3⟩
structure S2 where
 v:Value
 zs:List Int
 c:Int
def S2.cells (s:S2):List Value:=[s.v,dD (dC.dec s.c)]
def oN (w:World)(v:Value)(ss:List S2):Prop:=Row w 2 v (ss.map S2.cells)/\∀s∈ss,fA w s.v s.zs
theorem oN.below {a:List S2}(h:oN w v a)(b:dB w W):oN W v a:=
 ⟨h.1.below b,λs c=>(h.2 s c).below b⟩
theorem aiK:(prog.info? 274).map (λi=>(i.zero,i.size,i.bytes))=some (some (.agg #[dE,eB]),2,40):=bR
theorem yh {w:World}{s:S2}(h:fA w s.v s.zs):∀u∈s.cells,u.oneCell'=true:=by
 obtain⟨v,c,d⟩:=s;obtain⟨e,f,a,_⟩:=h;intro u b;simp only[S2.cells,List.mem_cons,List.not_mem_nil,or_false]at b;simp only at a;rcases b with rfl|rfl
 ·rw[a];rfl
 ·rfl
theorem ac1 (w:World)(s:S2)(t:TypeId):∀j u,s.cells[j]?=some u->(w.alloc (.cells #[s.v,dD (dC.dec s.c)] t)).cell? (((dA w.heap.size 0):Addr).add j)=some u:=by
 intro j u h
 match j,h with
 | 0,h=>simp[S2.cells,Addr.add]at h ⊢;exact h
 | 1,h=>simp[S2.cells,Addr.add]at h ⊢;exact h
 | n+2,h=>simp[S2.cells]at h
theorem wC (w:World)(s:S2)(t:TypeId)(n:Nat)(a:n=w.heap.size):∀j u,s.cells[j]?=some u->(w.alloc (.cells #[s.v,dD (dC.dec s.c)] t)).cell? (((dA n 0):Addr).add j)=some u:=by
 subst a;exact ac1 w s t
theorem Zj {a:List S2}(h:Row w 2 (dJ n m k) (a.map S2.cells)):∀j u,((a.map S2.cells).flatten)[j]?=some u->w.cell? (((dA n 0):Addr).add j)=some u:=by
 obtain⟨v,x,o,_,_,e,p⟩:=h;intro j u c;have y:=vW e
 have z:j<(a.map S2.cells).flatten.length:=by
  rcases Nat.lt_or_ge j (a.map S2.cells).flatten.length with h|h
  ·exact h
  ·rw[List.getElem?_eq_none h]at c;cases c
 obtain⟨q,r,s⟩:=p (j / 2) aR
 have t:n=q:=by
  injection o with b A B;rw[r]at b;injection b with b;injection b
 subst t;have f:j % 2<2:=Nat.mod_lt _ aR;have g:j / 2*2+j % 2=j:=Nat.div_add_mod' j 2;have i:=Aq e (j / 2) (j % 2) aR f;rw[g]at i;have d:=s (j % 2) f u (by rw[<-i];exact c);rw[g]at d
 by_cases l:j=0
 ·subst l;simpa[Addr.add] using d
 ·simpa[Addr.add,l] using d
theorem Ka (a:List S2)(s:S2):((a++[s]).map S2.cells).flatten=(a.map S2.cells).flatten++s.cells:=aW
theorem Ml {a:List S2}{s:S2}{X:Obj}(f:∀x∈a,fA w x.v x.zs)(g:fA w s.v s.zs)(c:dB w W)(i:W.ownsRow w.heap.size 274 2 v k (a.map S2.cells).flatten)(j:k=a.length)
 (e:u.ownsRow w.heap.size 274 2 (dJ n (k+1) m) (k+1) ((a.map S2.cells).flatten++s.cells)) (l:(W.alloc X).grownBy u v.ownBlock) :
 oN u (dJ n (k+1) m) (a++[s])/\dB w u:=by
 have d:dB w u:=(c.alloc c.size X).grown l (by simp;exact Nat.le_succ_of_le c.size) (λo p=>(i.lt o p).1);refine⟨⟨?_,?_⟩,d⟩
 ·rw[<-Ka]at e;exact Row.fq e (by simp[j]) aoo
 ·intro x b;rcases List.mem_append.1 b with h|h
  ·exact(f x h).below d
  ·rw[List.mem_singleton.1 h];exact g.below d
def abj (w':World)(ss:List S2)(e:Ending):Prop:=∃v,e=dF v/\oN w' v ss
theorem F6 (H:Value)(c:List S2)(g:Value)(a:List Int)(b:Int)(w:World)(I:oN w H c)(n:fA w g a)(J:c.length<=1000000) :
 dH 213 #[H,.agg #[g,dD (dC.dec b)]] w λV K=>abj K (c++[⟨g,a,b⟩]) V/\dB w K:=by
 obtain⟨t,hi,v,x,y⟩:=info_parts aiK;have z:=dn I;have L:=dn n;have M:=dn (yh (s:=⟨g,a,b⟩) n);have N:=dn (fun(W:World) (O:Nat) (J:O=W.heap.size)=>wC W ⟨g,a,b⟩ 274 O J);have X:=n;obtain⟨d,e,Y,_,_,_⟩:=X;subst Y;obtain⟨⟨A,Z,P,hcap,hmax,Q,B⟩,_⟩:=I;rw[List.length_map]at P hcap;subst P;unfold maxLen at hmax;have FO:=dn Q;clear Q n
 have HNW:Hid (∀p,A=some p->∀j u,((c.map S2.cells).flatten)[j]?=some u->w.cell? (p.add j)=some u):=by
  intro p R j u o;cases c with
  | nil=>simp at o
  | cons C xs=>
   obtain⟨bg,f,_⟩:=B 0 aW;rw[R]at f;injection f with f
   subst f;have S:=z.o.1;rw[R]at S;exact Zj S j u o
 have FT:Hid (A=none->c=[]):=by
  intro h;cases c with
  | nil=>rfl
  | cons C xs=>obtain⟨bg,f,_⟩:=B 0 aW;rw[h]at f;cases f
 have xE:=dn (vW FO.o)
 have uS:Hid (∀u∈(c.map S2.cells).flatten,u.oneCell'=true):=by
  intro u o;obtain⟨bn,hl1,hl2⟩:=List.mem_flatten.1 o;obtain⟨C,hx,rfl⟩:=List.mem_map.1 hl1;exact yh (z.o.2 C hx) u hl2
 clear B;cases A with
 | none=>
  have h0:=FT.o rfl;subst h0;have D:dB w (w.alloc (.cells #[.slice d a.length e,dD (dC.dec b)] 274)):=ai;have q:(w.alloc (.cells #[.slice d a.length e,dD (dC.dec b)] 274)).ownsRow w.heap.size 274 2 (dE) 0 (([]:List S2).map S2.cells).flatten:=World.ownsRow_nil _ _ _ _;go_enter Tryz.func213,Tryz.ntmps213;go_wp2_with (at_builtin;refine dU rfl (.tmp 9) (.tmp 11) 217 rfl w.heap.size 274 t (.agg #[dE,eB]) 2 40 Tryz.underlying217 hi v x y rfl aY _ 0 (([]:List S2).map S2.cells).flatten rfl (by exact(q).alloc _) (dA (w.heap.size+1) 0) 1 (S2.cells ⟨.slice d a.length e,a,b⟩) rfl rfl (by exact N.o _ _ aW) M.o bz aR aX ?_;intro ga fD w3 i k E F);have l:=Ml (s:=⟨.slice d a.length e,a,b⟩) aW L.o D q rfl i k;clear i k E F;have m:=dn l;clear l;go_wp2;go_ret;exact⟨⟨_,rfl,m.o.1⟩,m.o.2⟩
 | some p=>
  have D:dB w (w.alloc (.cells #[.slice d a.length e,dD (dC.dec b)] 274)):=ai;have q:(w.alloc (.cells #[.slice d a.length e,dD (dC.dec b)] 274)).ownsRow w.heap.size 274 2 (dE) 0 []:=World.ownsRow_nil _ _ _ _;have Ad:Hid (∀j u,((c.map S2.cells).flatten)[j]?=some u->(w.alloc (.cells #[.slice d a.length e,dD (dC.dec b)] 274)).cell? (p.add j)=some u):=λj u h=>fH (HNW.o p rfl j u h);go_enter Tryz.func213,Tryz.ntmps213;go_wp2_with (at_builtin;first|(refine wpList_append_own _ rfl (.tmp 6) (.tmp 7) 217 rfl w.heap.size 274 t (.agg #[dE,eB]) 2 40 Tryz.underlying217 hi v x y rfl aY (dE) 0 [] rfl q p c.length Z (c.map S2.cells).flatten rfl (by have h:=xE.o;rw[List.length_map]at h;exact h) Ad.o uS.o bz aR aW ?_;intro v1 r G s _;have c0:r.cell? (dA w.heap.size 0)=some (.slice d a.length e):=(eY s (a:=dA w.heap.size 0) aW (by simp[Value.ownBlock])).trans aW;have c1:r.cell? (dA w.heap.size 1)=some (dD (dC.dec b)):=(eY s (a:=dA w.heap.size 1) aW (by simp[Value.ownBlock])).trans aW;have T:Hid (dB w r):=D.grown s aW (λbq hk=>by simp[Value.ownBlock]at hk);have hs1:=T.o.size;rw[List.nil_append,Nat.zero_add]at G;have U:=dn G;clear G s)|(refine dU rfl (.tmp 9) (.tmp 11) 217 rfl w.heap.size 274 t (.agg #[dE,eB]) 2 40 Tryz.underlying217 hi v x y rfl aY _ c.length (c.map S2.cells).flatten rfl (by exact(U.o).alloc _) (dA r.heap.size 0) 1 (S2.cells ⟨.slice d a.length e,a,b⟩) rfl rfl (by exact N.o _ _ aW) M.o bz aR aX ?_;intro ga fD w3 i k E F));have l:=Ml (s:=⟨.slice d a.length e,a,b⟩) z.o.2 L.o T.o U.o rfl i k;clear i k E F;have m:=dn l;clear l;go_wp2;go_ret;exact⟨⟨_,rfl,m.o.1⟩,m.o.2⟩
theorem fA.grown {row:Option Nat}(h:fA w v f)(e:w.grownBy W row)(j:∀b,v.ownBlock=some b->row≠some b):fA W v f:=by
 obtain⟨k,l,a,m,n,o⟩:=h;refine⟨k,l,a,m,n,λi hi=>?_⟩;obtain⟨g,c,p⟩:=o i hi;refine⟨g,c,λq=>?_⟩;have d:=p q;rw[eY e (a:=dA g i) (aj d) (λr=>j g (by rw[a,c];rfl) r.symm)];exact d
structure Dt (w wr:World)(v:Value)(ss:List S2)(n:Nat):Prop where
 own:wr.ownsRow w.heap.size 274 2 v ss.length (ss.map S2.cells).flatten
 nums:∀s∈ss,fA wr s.v s.zs
 len:∀s∈ss,s.zs.length=n/\(∀z∈s.zs,z.natAbs<=big 1000)/\s.c.natAbs<=big 1000
 old:∀s∈ss,∀b,s.v.ownBlock=some b->v.ownBlock≠some b/\b<wr.heap.size
 below:dB w wr
theorem Dt.nil (w:World)(n:Nat):Dt w w (dE) [] n:=⟨World.ownsRow_nil _ _ _ _,aW,aW,aW,af⟩
theorem Dt.after {c:List S2}(h:Dt w W v c n)(a:dB W u):Dt w u v c n:=
 ⟨ownsRow_below h.own a,λs b=>(h.nums s b).below a,h.len,λs b d e=>⟨(h.old s b d e).1,Nat.lt_of_lt_of_le (h.old s b d e).2 a.size⟩,h.below.dW a⟩
theorem Dt.app {d:List S2}{s:S2}{g cap:Nat}(h:Dt w W v d n)(X:Obj)(i:W.ownsRow m 9 1 s.v s.zs.length (s.zs.map str))(p:∀b,v.ownBlock=some b->b<m)(q:s.zs.length=n/\(∀z∈s.zs,z.natAbs<=big 1000)/\s.c.natAbs<=big 1000)
 (r:u.ownsRow w.heap.size 274 2 (dJ g (d.length+1) cap) (d.length+1) ((d.map S2.cells).flatten++s.cells)) (e:(W.alloc X).grownBy u v.ownBlock) (t:v.ownBlock=some g\/(W.alloc X).heap.size<=g) :
 Dt w u (dJ g (d.length+1) cap) (d++[s]) n:=by
 have y:=h.below.size;have k:dB W (W.alloc X):=af.alloc ae X;have A:=e.size
 have l:∀b,b<W.heap.size->v.ownBlock≠some b->(Value.slice (some (dA g 0)) (d.length+1) cap).ownBlock≠some b/\b<u.heap.size:=by
  intro b c B;refine⟨λj=>?_,by simp at A;omega⟩;have C:g=b:=by simpa[Value.ownBlock] using j
  subst C;rcases t with f|f
  ·exact B f
  ·simp at f;exact aR
 have o:∀b,s.v.ownBlock=some b->v.ownBlock≠some b:=λb c j=>by
  have f:=(i.lt b c).1;have F:=p b j;exact aR
 refine⟨?_,?_,?_,?_,?_⟩
 ·rw[Ka,List.length_append];exact r
 ·intro x a;rcases List.mem_append.1 a with a|a
  ·exact((h.nums x a).below k).grown e (λb c=>(h.old x a b c).1)
  ·rw[List.mem_singleton.1 a];exact((fA.fq i).below k).grown e o
 ·intro x a;rcases List.mem_append.1 a with a|a
  ·exact h.len x a
  ·rw[List.mem_singleton.1 a];exact q
 ·intro x a b c;rcases List.mem_append.1 a with a|a
  ·exact l b (h.old x a b c).2 (h.old x a b c).1
  ·rw[List.mem_singleton.1 a]at c;exact l b (i.lt b c).2 (o b c)
 ·exact(h.below.alloc y X).grown e aX (λD E=>(h.own.lt D E).1)
theorem Dt.sums {a:List S2}(h:Dt w W v a n):oN W v a:=
 ⟨Row.fq h.own aW aoo,h.nums⟩
def Ld (w':World)(n m:Nat)(e:Ending):Prop:=∃v ss,e=dF v/\oN w' v ss/\ss.length<=m/\∀s∈ss,s.zs.length=n/\(∀z∈s.zs,z.natAbs<=big 1000)/\s.c.natAbs<=big 1000
theorem fI.app {o:Nat}{l:Lit}{X Y:Obj}{row:Option Nat}(h:fI w n o l)(b:dB w W)(c:n<w.heap.size)(d:((W.alloc Y).alloc X).grownBy u row)(e:row≠some n):fI u n o l:=by
 have f:=b.size;have g:dB w ((W.alloc Y).alloc X):=(b.alloc f Y).alloc aX X;have a:=h.below g c;have i:n<((W.alloc Y).alloc X).heap.size:=aX;have k:∀p:Nat,u.cell? (dA n p)=((W.alloc Y).alloc X).cell? (dA n p):=λp=>eY d (a:=dA n p) i (λj=>e j.symm);exact⟨(k _).trans a.neg,(k _).trans a.kind,(k _).trans a.a,(k _).trans a.b⟩
theorem Xj (R bb:Nat)(r:List fB)(held:List Nat)(cs:List (List Lit))(hts:r.length<=1000)(hwf:jQ r)(ru:zg r)(vl:Value)(z:List Lit)(w:World)(hp:iE w R bb r held cs)(hls:fK w vl z)(hsm:z.length<=1000000)(xe:∀l∈z,l.kind≠84->l.a<r.length/\l.b<r.length) :
 dH 151 #[dK R 0,vl] w λi N=>Ld N r.length (2*z.length) i/\dB w N:=by
 have S:Hid (∀(T e:Nat) (U:Int) (W:World),T<r.length->e<r.length->U.natAbs<=1->dB w W->dH 209 #[dK R 0,dw T,dw e,dD (dC.dec U)] W λi N=>OV r.length N W.heap.size i/\dB W N):=λT e U W ha o hm hbw=>Tv R bb r held cs hts hwf ru T e U W (hp.below hbw) ha o hm;obtain⟨al,Az,rfl,EP,xQ,DZ⟩:=hls;unfold maxLen at xQ;have JW:=dn DZ;have xu:=dn xe;obtain⟨V,hi,X,Y,Z⟩:=info_parts aiK;clear DZ xe hp hwf ru;go_enter func151,ntmps151;go_wp2_with fail
 go_loopw [5,6] (fun bq bg wr=>∃(p:Nat) (h:List S2),bg=dw p/\p<=z.length/\Dt w wr bq h r.length/\h.length<=2*p) (fun _ bg _=>z.length-(intOf bg).toNat)
 ·exact⟨0,[],rfl,aR,Dt.nil w _,aW⟩
 case round=>
  obtain⟨p,h,rfl,hk,hgs,hsl⟩:=hrel;have O:=dn hgs
  by_cases hlt:p<z.length
  ·obtain⟨bB,hg,hc⟩:=JW.o p hlt;subst hg;have hgl:=aj (hc hlt).neg;obtain⟨e1,e2,e3,e4⟩:=(hc hlt).below hgs.below hgl;have WZ:=xu.o z[p] aW;generalize z[p]=l at *;clear hc hgl;go_upto_region 5 with fail
   go_cut [7] (fun bA wx=>bA=dK wr.heap.size 0/\fI wx wr.heap.size 0 l/\dB wr wx/\wr.heap.size<wx.heap.size)
   case first=>
    go_wp2;go_meet
    ·exact⟨rfl,⟨aW,aW,aW,aW⟩,ai,aW⟩
   case rest=>
    obtain⟨rfl,hlc,hbx,hsx⟩:=hcut;have FV:=dn hlc;have m:=dn (O.o.after hbx);have Ae:Hid (∀e,u5.ownBlock=some e->e<wr.heap.size):=λe o=>(O.o.own.lt e o).2;obtain⟨x1,x2,x3,x4⟩:=hlc;clear hgs e1 e2 e3 e4;generalize hng:l.neg=ng at *;have FU:=dn hng;clear hng;cases ng
    ·by_cases h76:l.kind=76
     ·have t76:((l.kind:Int)==76)=true:=bM;obtain⟨P,Q⟩:=WZ aR;have j:=S.o l.b l.a 1 wc Q P aW m.o.below;rw[dC.lD]at j;have G:=dn j;clear j;go_wp2_with fail;refine G.o.mono ?_;rintro i f ⟨⟨a,b,t,u,v,x⟩,n⟩;obtain⟨aeb,rfl,g⟩:=t.o;obtain⟨c,d,H,_,_,_⟩:=eZ g;subst H;have B:=dn ((m.o.after n).after (af.alloc ae (.cells #[.slice c a.length d,dD (dC.dec b)] 274)));have aeJ:w.heap.size<=f.heap.size:=(m.o.after n).below.size;have ace:wc.heap.size<=f.heap.size:=n.size;have I:=dn (wC (f.alloc (.cells #[.slice c a.length d,dD (dC.dec b)] 274)) ⟨.slice c a.length d,a,b⟩ 274 (f.heap.size+1) aW);have J:=dn (yh (w:=f) (s:=⟨.slice c a.length d,a,b⟩) (fA.fq g));have K:=dn (g.alloc (.cells #[.slice c a.length d,dD (dC.dec b)] 274));have L:=dn (And.intro u (And.intro v x));clear t g u v x;go_wp2_with (at_builtin;refine dU rfl (.tmp 69) (.tmp 71) 217 rfl w.heap.size 274 V (.agg #[dE,eB]) 2 40 underlying217 hi X Y Z rfl aY _ h.length ((h).map S2.cells).flatten rfl aoU (dA (f.heap.size+1) 0) 1 (S2.cells ⟨.slice c a.length d,a,b⟩) rfl rfl (by exact I.o) J.o amF ank aX ?_;intro Uh Ow A y k _ s);have C:=dn (B.o.app (s:=⟨.slice c a.length d,a,b⟩) _ K.o (λe o=>(m.o.own.lt e o).2) L.o y k s);clear y k s;clear x1 x2 x3 x4;exact aqQ
     ·have t76:((l.kind:Int)==76)=false:=ak aR;go_wp2;go_roundw
      ·exact⟨p+1,h,bL,aR,m.o,aR⟩
      ·exact aph
    ·by_cases h84:l.kind=84
     ·have t84:((l.kind:Int)==84)=true:=bM;have t69:((l.kind:Int)==69)=false:=ak aR;have n84:(l.kind:Int)=84:=aR;clear n84;go_wp2;go_roundw
      ·exact⟨p+1,h,bL,aR,m.o,aR⟩
      ·exact aph
     ·have t84:((l.kind:Int)==84)=false:=ak aR;obtain⟨P,Q⟩:=WZ h84
      by_cases h69:l.kind=69
      ·have t69:((l.kind:Int)==69)=true:=bM;clear h84 h69;have j:=S.o l.a l.b 0 wc P Q aW m.o.below;rw[dC.gV]at j;have G:=dn j;clear j;go_wp2_with fail;refine G.o.mono ?_;rintro i f ⟨⟨a,b,t,u,v,x⟩,n⟩;obtain⟨aeb,rfl,g⟩:=t.o;obtain⟨c,d,H,_,_,_⟩:=eZ g;subst H;have B:=dn ((m.o.after n).after (af.alloc ae (.cells #[.slice c a.length d,dD (dC.dec b)] 274)));have aeJ:w.heap.size<=f.heap.size:=(m.o.after n).below.size;have ace:wc.heap.size<=f.heap.size:=n.size;have I:=dn (wC (f.alloc (.cells #[.slice c a.length d,dD (dC.dec b)] 274)) ⟨.slice c a.length d,a,b⟩ 274 (f.heap.size+1) aW);have J:=dn (yh (w:=f) (s:=⟨.slice c a.length d,a,b⟩) (fA.fq g));have K:=dn (g.alloc (.cells #[.slice c a.length d,dD (dC.dec b)] 274));have L:=dn (And.intro u (And.intro v x));clear t g u v x;go_wp2_with (at_builtin;refine dU rfl (.tmp 34) (.tmp 36) 217 rfl w.heap.size 274 V (.agg #[dE,eB]) 2 40 underlying217 hi X Y Z rfl aY _ h.length ((h).map S2.cells).flatten rfl aoU (dA (f.heap.size+1) 0) 1 (S2.cells ⟨.slice c a.length d,a,b⟩) rfl rfl (by exact I.o) J.o amF ank aX ?_;intro Uh Ow A y k _ s;have hx5:fI A wr.heap.size 0 l:=FV.o.app n hsx k (λi=>aP (Ae.o _ i));obtain⟨YO,aht,ahs,ahr⟩:=hx5;rw[FU.o]at YO);have C:=dn (B.o.app (s:=⟨.slice c a.length d,a,b⟩) _ K.o (λe o=>(m.o.own.lt e o).2) L.o y k s);have OZ:Hid (fI A wr.heap.size 0 l):=FV.o.app n hsx k (λi=>aP (Ae.o _ i));have ahP:wr.heap.size<A.heap.size:=aj OZ.o.neg
       have aj7:Hid (∀e,(Value.slice (some (dA Uh 0)) (h.length+1) Ow).ownBlock=some e->e≠wr.heap.size):=λe o i=>by
        have hgb:Uh=e:=by simpa[Value.ownBlock] using o
        rcases s with bn|bn
        ·have:=Ae.o _ bn;exact aR
        ·simp at bn;exact aR
       clear y k s;have j:=S.o l.b l.a 0 A Q P aW C.o.below;rw[dC.gV]at j;have G:=dn j;clear j;go_wp2_with fail;refine G.o.mono ?_;rintro i M ⟨⟨q,D,t,u,v,x⟩,sG⟩;obtain⟨akL,rfl,g⟩:=t.o;obtain⟨E,F,H,_,_,_⟩:=eZ g;subst H;have agI:=dn ((C.o.after sG).after (af.alloc ae (.cells #[.slice E q.length F,dD (dC.dec D)] 274)));have akT:w.heap.size<=M.heap.size:=(C.o.after sG).below.size;have aku:A.heap.size<=M.heap.size:=sG.size;have I:=dn (wC (M.alloc (.cells #[.slice E q.length F,dD (dC.dec D)] 274)) ⟨.slice E q.length F,q,D⟩ 274 (M.heap.size+1) aW);have J:=dn (yh (w:=M) (s:=⟨.slice E q.length F,q,D⟩) (fA.fq g));have K:=dn (g.alloc (.cells #[.slice E q.length F,dD (dC.dec D)] 274));have L:=dn (And.intro u (And.intro v x));clear t g u v x;go_wp2_with (at_builtin;refine dU rfl (.tmp 51) (.tmp 53) 217 rfl w.heap.size 274 V (.agg #[dE,eB]) 2 40 underlying217 hi X Y Z rfl aY _ (h++[S2.mk (.slice c a.length d) a b]).length (((h++[S2.mk (.slice c a.length d) a b])).map S2.cells).flatten rfl (by exact agI.o.own.alloc _) (dA (M.heap.size+1) 0) 1 (S2.cells ⟨.slice E q.length F,q,D⟩) rfl rfl (by exact I.o) J.o amF ank aX ?_;intro alA akt w7 y k _ s;have hx7:fI w7 wr.heap.size 0 l:=OZ.o.app sG ahP k (λi=>by have:=aj7.o _ i;exact this rfl);obtain⟨ahu,akJ,akI,akH⟩:=hx7;rw[FU.o]at ahu);have H7:=dn (agI.o.app (s:=⟨.slice E q.length F,q,D⟩) _ K.o (λe o=>(C.o.own.lt e o).2) L.o y k s);clear y k s;go_wp2;go_roundw
       ·exact⟨p+1,(h++[S2.mk (.slice c a.length d) a b])++[S2.mk (.slice E q.length F) q D],bL,aR,by simpa using H7.o,aX⟩
       ·exact aph
      ·have t69:((l.kind:Int)==69)=false:=ak aR;clear h84 h69;have j:=S.o l.a l.b 0 wc P Q aW m.o.below;rw[dC.gV]at j;have G:=dn j;clear j;go_wp2_with fail;refine G.o.mono ?_;rintro i f ⟨⟨a,b,t,u,v,x⟩,n⟩;obtain⟨aeb,rfl,g⟩:=t.o;obtain⟨c,d,H,_,_,_⟩:=eZ g;subst H;have B:=dn ((m.o.after n).after (af.alloc ae (.cells #[.slice c a.length d,dD (dC.dec b)] 274)));have aeJ:w.heap.size<=f.heap.size:=(m.o.after n).below.size;have ace:wc.heap.size<=f.heap.size:=n.size;have I:=dn (wC (f.alloc (.cells #[.slice c a.length d,dD (dC.dec b)] 274)) ⟨.slice c a.length d,a,b⟩ 274 (f.heap.size+1) aW);have J:=dn (yh (w:=f) (s:=⟨.slice c a.length d,a,b⟩) (fA.fq g));have K:=dn (g.alloc (.cells #[.slice c a.length d,dD (dC.dec b)] 274));have L:=dn (And.intro u (And.intro v x));clear t g u v x;go_wp2_with (at_builtin;refine dU rfl (.tmp 34) (.tmp 36) 217 rfl w.heap.size 274 V (.agg #[dE,eB]) 2 40 underlying217 hi X Y Z rfl aY _ h.length ((h).map S2.cells).flatten rfl aoU (dA (f.heap.size+1) 0) 1 (S2.cells ⟨.slice c a.length d,a,b⟩) rfl rfl (by exact I.o) J.o amF ank aX ?_;intro Uh Ow A y k _ s;have hx5:fI A wr.heap.size 0 l:=FV.o.app n hsx k (λi=>aP (Ae.o _ i));obtain⟨YO,aht,ahs,ahr⟩:=hx5;rw[FU.o]at YO);have C:=dn (B.o.app (s:=⟨.slice c a.length d,a,b⟩) _ K.o (λe o=>(m.o.own.lt e o).2) L.o y k s);clear y k s;exact aqQ
  ·go_wp2;go_ret;exact⟨⟨_,h,rfl,O.o.sums,aR,O.o.len⟩,O.o.below⟩
theorem AO {l:dN}(h:dC.Is l=true):0<l.length:=by
 cases l with
 | nil=>simp[dC.Is]at h
 | cons c u=>simp
theorem Yh {l:dN}(h:dC.Is l=true)(d:¬l.head?=some 45):∀c∈l,48<=c.toNat/\c.toNat<=57:=by
 by_cases a:(l==[48])=true
 ·have:=eq_of_beq a;subst this;intro c b;rw[List.mem_singleton.1 b];exact⟨aY,aY⟩
 ·have a:(l==[48])=false:=amr;rw[OX a d]at h;unfold qx at h;simp only[Bool.and_eq_true]at h;intro c b;have:=List.all_eq_true.1 h.1.1 c b;unfold rA at this;exact aq2
def Yd (e:Ending):Prop:=∃(n:Nat) (b:Bool),n<1000/\e=dF (dM #[dw n,.bool b])
theorem qd (l:dN)(w:World)(d:l.length<=1000000000000) :
 dH 197 #[dD l] w λe f=>Yd e/\f=w:=by
 have v:=gU;have g:=dn (OY l w d);have h:=dn (AO (l:=l));have j:=dn (Yh (l:=l));generalize dC.Is l=n at *;go_enter func197,ntmps197;go_wp2_with fail;refine g.o.mono ?_;rintro e x ⟨rfl,rfl⟩;cases n
 ·go_wp2;go_ret2;exact⟨⟨0,false,aR,rfl⟩,rfl⟩
 ·have o:0<l.length:=h.o rfl
  by_cases y:l.length<=3
  ·by_cases a:l.head?=some 45
   ·have p:((l[0].toNat:Int)==45)=true:=by
     cases l with
     | nil=>simp at o
     | cons z A=>simp at a;subst a;rfl
    clear a;go_wp2;go_ret2;exact⟨⟨0,false,aR,rfl⟩,rfl⟩
   ·have b:=j.o rfl a
    have p:((l[0].toNat:Int)==45)=false:=by
     have:=b l[0] aW;rw[beq_eq_false_iff_ne];exact aR
    have q:=dn b;clear b a;go_wp2_with fail
    go_loop [5,6] (fun r i=>∃k m:Nat,i=dw k/\r=dw m/\k<=l.length/\m<10 ^ k) (fun _ i=>l.length-(intOf i).toNat)
    ·exact⟨0,0,rfl,rfl,aR,aW⟩
    case round=>
     obtain⟨k,m,rfl,rfl,B,c⟩:=hrel;have s:m<10 ^ 3:=Nat.lt_of_lt_of_le c (Nat.pow_le_pow_right aR aR);have t:m<1000:=aR;have u:=dn c;clear c s
     by_cases C:k<l.length
     ·have b:=q.o l[k] aW;obtain⟨D,E⟩:=b;go_wp2;go_round
      case rel=>
       refine⟨k+1,10*m+(l[k].toNat-48),bL,?_,aR,?_⟩
       ·congr 1;omega
       ·have:=u.o;rw[Nat.pow_succ];exact aR
      case measure=>exact aph
     ·go_wp2;go_ret2;exact⟨⟨m,true,t,rfl⟩,rfl⟩
  ·go_wp2;go_ret2;exact⟨⟨0,false,aR,rfl⟩,rfl⟩
def abr (w':World)(base n:Nat)(e:Ending):Prop:=
 ∃(v:Value) (ws:List (dN)),e=dF v/\w'.ownsRow base 9 1 v ws.length (ws.map eO)/\0<ws.length/\(ws.map List.length).sum+ws.length=n+1
theorem JL (l:dN)(f:UInt8)(w:World)(H:l.length<=1000000000000) :
 dH 144 #[dD l,.int .u8 f.toNat] w λt u=>abr u w.heap.size l.length t/\dB w u:=by
 have I:=gU;obtain⟨v,hi,y,z,A⟩:=info_parts ni;go_enter func144,ntmps144;go_wp2_with fail
 go_loopw [5,6,7] (fun E F i wr=>∃(k q:Nat) (a:List (dN)),i=dw k/\F=dw q/\q<=k/\k<=l.length/\wr.ownsRow w.heap.size 9 1 E a.length (a.map eO)/\(a.map List.length).sum+a.length=q/\dB w wr) (fun _ _ i _=>l.length-(intOf i).toNat)
 ·exact⟨0,0,[],rfl,rfl,aR,aR,World.ownsRow_nil _ _ _ _,rfl,af⟩
 case round=>
  obtain⟨k,q,a,rfl,rfl,J,K,B,C,g⟩:=hrel;have b:=dn B;have h:=dn C;have L:a.length<=l.length:=aR;have D:=g.size;clear B C
  by_cases M:k<l.length
  ·by_cases j:l[k]=f
   ·have G:((l[k].toNat:Int)==(f.toNat:Int))=true:=by rw[j,beq_iff_eq]
    clear j;go_wp2_with (at_builtin;refine dU rfl (.tmp 19) (.tmp 24) 45 rfl w.heap.size 9 v (eB) 1 16 underlying45 hi y z A rfl aY _ a.length (a.map eO) rfl am1 (dA wr.heap.size 0) 1 [eO (List.drop q (List.take k l))] rfl rfl bP bX bz aR aX ?_;intro m n c d e _ o);have p:Hid (c.ownsRow w.heap.size 9 1 (dJ m (a.length+1) n) (a++[List.drop q (List.take k l)]).length ((a++[List.drop q (List.take k l)]).map eO)):=alW;have r:Hid (dB w c):=(g.alloc D _).grown e aX (λx s=>(b.o.lt x s).1);clear d e o;go_wp2;go_roundw
    ·exact⟨k+1,k+1,a++[List.drop q (List.take k l)],bL,bL,aR,aR,p.o,by have:=h.o;simp;omega,r.o⟩
    ·exact aph
   ·have G:((l[k].toNat:Int)==(f.toNat:Int))=false:=by rw[beq_eq_false_iff_ne];intro t;exact j (dC.ll aR)
    go_wp2;go_roundw
    ·exact⟨k+1,q,a,bL,rfl,aR,aR,b.o,h.o,g⟩
    ·exact aph
  ·go_wp2_with (at_builtin;refine dU rfl (.tmp 28) (.tmp 32) 45 rfl w.heap.size 9 v (eB) 1 16 underlying45 hi y z A rfl aY _ a.length (a.map eO) rfl am1 (dA wr.heap.size 0) 1 [eO (List.drop q l)] rfl rfl bP bX bz aR aX ?_;intro m n c d e _ o);have p:Hid (c.ownsRow w.heap.size 9 1 (dJ m (a.length+1) n) (a++[List.drop q l]).length ((a++[List.drop q l]).map eO)):=alW;have r:Hid (dB w c):=(g.alloc D _).grown e aX (λx s=>(b.o.lt x s).1);clear d e o;go_wp2;go_ret;exact⟨⟨_,a++[List.drop q l],rfl,p.o,aW,by have:=h.o;simp;omega⟩,r.o⟩
structure Nd where
 kind:Nat
 mult:List Int
 var:Nat
 num:dN
structure IQ (w:World)(g o:Nat)(d:Nd):Prop where
 kind:w.cell? (dA g o)=some (.int .u8 d.kind)
 mult:∃a c,w.cell? (dA g (o+1))=some (.slice a d.mult.length c)/\d.mult.length<=c/\c<=2 ^ 63-1/\fA w (.slice a d.mult.length c) d.mult
 var:w.cell? (dA g (o+2))=some (dw d.var)
 num:w.cell? (dA g (o+3))=some (dD d.num)
theorem IQ.below {o:Nat}{d:Nd}(h:IQ w n o d)(a:dB w W):IQ W n o d:=by
 have b:=aj h.kind;obtain⟨c,e,f,g,i,j⟩:=h.mult;exact⟨(a.dL h.kind b),⟨c,e,(a.dL f b),g,i,j.below a⟩,(a.dL h.var b),(a.dL h.num b)⟩
def nQ (w:World)(v:Value)(ds:List Nd):Prop:=gu v ds.length (λg i=>∀h:i<ds.length,IQ w g (i*4) ds[i])
theorem nQ.below {a:List Nd}(h:nQ w v a)(b:dB w W):nQ W v a:=
 gu.imp h λ_ _ _ c hi=>(c hi).below b
def Ep (d:Nd):Prop:=d.kind<256/\d.var<1000/\(d.kind=115->∃z:Int,d.num=dC.dec z)
def ib (ms:List Int):Nat:=(ms.map (λz=>(dC.dec z).length+3)).sum
def G7 (d:Nd):Nat:=ib d.mult+d.num.length+30
def gM (ds:List Nd):Nat:=(ds.map G7).sum
theorem MZ {a:List Nd}{d:Nd}(h:a[n]?=some d):gM (a.take (n+1))=gM (a.take n)+G7 d:=by
 unfold gM;rw[List.take_add_one,h];exact aW
theorem G6 (a:List Nd):∀i,gM (a.take i)<=gM a:=by
 intro i;have h:a=a.take i++a.drop i:=(List.take_append_drop i a).symm
 have e:gM a=gM (a.take i)+gM (a.drop i):=by
  conv=>lhs;rw[h]
  unfold gM;rw[List.map_append,List.sum_append]
 exact aR
theorem yM (a:List Nd){i j:Nat}(h:i<=j):gM (a.take i)<=gM (a.take j):=by
 have:=G6 (a.take j) i;rw[List.take_take,Nat.min_eq_left h]at this;exact this
theorem Tp (h:f[n]?=some z):ib (f.take (n+1))=ib (f.take n)+((dC.dec z).length+3):=by
 unfold ib;rw[List.take_add_one,h];exact aW
theorem ZU (a:List Int)(i:Nat):ib (a.take i)<=ib a:=by
 have h:a=a.take i++a.drop i:=(List.take_append_drop i a).symm
 have e:ib a=ib (a.take i)+ib (a.drop i):=by
  conv=>lhs;rw[h]
  unfold ib;rw[List.map_append,List.sum_append]
 exact aR
structure LB (M:Nat)(zs:List Int)(c:Int):Prop where
 zs:∀z∈zs,(dC.dec z).length<=M
 c:(dC.dec c).length<=M
theorem LB.mono (h:LB n f z)(a:n<=m):LB m f z:=⟨λb c=>Nat.le_trans (h.zs b c) a,Nat.le_trans h.c a⟩
theorem LB.zero (n M:Nat)(h:1<=M):LB M (List.replicate n 0) 0:=⟨λz a=>by rw[(List.mem_replicate.1 a).2,dC.gV];exact h,by rw[dC.gV];exact h⟩
theorem MG {y:Int}(c:(dC.dec z).length<=n)(a:(dC.dec Z).length<=m)(b:(dC.dec y).length<=k):(dC.dec (z+Z*y)).length<=max n (m+k+1)+2:=by
 have d:=mX z (Z*y);have e:=FE a b;exact aR
theorem acV (c:∀a∈f,(dC.dec a).length<=n)(e:(dC.dec z).length<=m)(d:∀a∈F,(dC.dec a).length<=k):∀a∈List.zipWith (λg i=>g+z*i) f F,(dC.dec a).length<=max n (m+k+1)+2:=by
 intro a b
 induction f generalizing F with
 | nil=>simp at b
 | cons x l j=>
  cases F with
  | nil=>simp at b
  | cons y o=>
   simp only[List.zipWith_cons_cons,List.mem_cons]at b;rcases b with rfl|b
   ·exact MG (c x aW) e (d y aW)
   ·exact j (λa h=>c a aoX) (λa h=>d a aoX) b
def acz (w':World)(base n M:Nat)(e:Ending):Prop:=∃(zs:List Int) (c:Int) (v:Value),e=dF (.agg #[v,dD (dC.dec c)])/\w'.ownsRow base 9 1 v zs.length (zs.map str)/\zs.length=n/\LB M zs c
theorem Q7 {k:Int}{K:Nat}(o:fA w v f)(p:fA w V F)(x:f.length=n)(y:F.length=n)(A:n<=1000000)(a:LB m f z)(b:LB i F Z)(c:(dC.dec k).length<=K)(g:m<=300000000000)(j:i<=300000000000)(q:K<=300000000000) :
 dH 212 #[.agg #[v,dD (dC.dec z)],dD (dC.dec k),.agg #[V,dD (dC.dec Z)]] w λl d=>acz d w.heap.size n (max m (K+i+1)+2) l/\dB w d:=by
 refine(MH v V f F z k Z w o p aR aR (λe h=>Nat.le_trans (a.zs e h) g) (λe h=>Nat.le_trans (b.zs e h) j) (Nat.le_trans a.c g) (Nat.le_trans c q) (Nat.le_trans b.c j)).mono ?_;rintro l d ⟨⟨r,s,t⟩,u⟩;exact⟨⟨_,_,r,s,t,aX,acV a.zs c b.zs,MG a.c c b.c⟩,u⟩
theorem Ry (h:z.natAbs<=Z.natAbs):(dC.dec z).length<=(dC.dec Z).length+1:=by
 have b:=dC.pG z;have c:=dC.iC Z;have a:=dC.C9 Z.natAbs;have d:=dC.nD (Nat.lt_of_le_of_lt h a);exact aR
theorem aa5 {x:Int}(b:0<z):(-(-x / z)).natAbs<=x.natAbs:=by
 rw[Int.natAbs_neg];have c:x.natAbs=(-x).natAbs:=(Int.natAbs_neg x).symm;rw[c];generalize -x=y;have e:=Int.mul_ediv_add_emod y z;have f:=Int.emod_nonneg y (by omega:z≠0);have g:=Int.emod_lt_of_pos y b;generalize h:y / z=q at *;rcases Int.lt_trichotomy q 0 with a|a|a
 ·have d:z*q<=z*(-1):=Int.mul_le_mul_of_nonneg_left aR aR
  have i:y<=q:=by
   have j:z*q<=1*q+(z-1)*(-1):=by
    have:(z-1)*q<=(z-1)*(-1):=Int.mul_le_mul_of_nonneg_left aR aR;have k:z*q=1*q+(z-1)*q:=by rw[<-Int.add_mul];congr 1;omega
    exact aR
   have:y=z*q+y % z:=aR;exact aR
  exact aR
 ·subst a;exact aW
 ·have d:1*q<=z*q:=Int.mul_le_mul_of_nonneg_right aR aR;exact aR
theorem adD (b:z=0\/∃y:Int,z.natAbs<=y.natAbs/\(dC.dec y).length<=n)(c:(dC.dec Z).length<=n) :
 ((Int.gcd z Z:Nat):Int)=0\/∃y:Int,((Int.gcd z Z:Nat):Int).natAbs<=y.natAbs/\(dC.dec y).length<=n:=by
 by_cases e:Int.gcd z Z=0
 ·left;omega
 ·right
  by_cases a:z=0
  ·exact⟨Z,by rw[a,Int.gcd_zero_left];simp,c⟩
  ·rcases b with h|⟨y,f,d⟩
   ·exact absurd h a
   ·refine⟨y,?_,d⟩;have:Int.gcd z Z<=z.natAbs:=Nat.le_of_dvd aR (Int.natAbs_dvd_natAbs.2 (Int.gcd_dvd_left z Z) |> λh=>anv);exact aX
def Cells (w:World)(l:List (Addr × Value)):Prop:=∀q∈l,w.cell? q.1=some q.2
theorem Cells.below {l:List (Addr × Value)}(h:Cells w l)(b:dB w W):Cells W l:=λq a=>(b.cell (aj (h q a))).trans (h q a)
theorem Cells.set {l:List (Addr × Value)}(h:Cells w l){a:Addr}{u:Value}(c:∀q∈l,a≠q.1):Cells (w.setCell a u) l:=λq b=>(ax (λe=>c q b e)).trans (h q b)
structure AS (w wx:World)(sb NT:Nat)(a:eu)(p:Nat)(zs:List Int)(c:Int)(l:List (Addr × Value)):Prop where
 c0:wx.cell? (dA sb 0)=some (.slice a NT p)
 c1:wx.cell? (dA sb 1)=some (dD (dC.dec c))
 fr:∀o,wx.frozen? (dA sb o)=false
 nums:fA wx (.slice a NT p) zs
 len:zs.length=NT
 ek:dB w wx
 cells:Cells wx l
 apart:∀q∈l,sb≠q.1.block
 lt:w.heap.size<=sb
 cap:NT<=p/\p<=2 ^ 63-1
theorem AS.hi {l:List (Addr × Value)}(h:AS w W n m a k f z l):n<W.heap.size:=World.block_lt_of_cell? W (dA n 0) h.c0
theorem AS.below {l:List (Addr × Value)}(h:AS w W n m a k f z l)(b:dB W u):AS w u n m a k f z l:=
 ⟨(b.dL h.c0 h.hi),(b.dL h.c1 h.hi),λo=>(b.gq (h.fr o) h.hi),h.nums.below b,h.len,h.ek.dW b,h.cells.below b,h.apart,h.lt,h.cap⟩
theorem AS.start {w:World}{NT:Nat}{a:eu}{p:Nat}{zs:List Int}{c:Int}{l:List (Addr × Value)}(d:W.ownsRow n 9 1 (.slice a NT p) zs.length (zs.map str))(g:zs.length=NT)(e:dB w W)(f:Cells W l) :
 AS w (W.alloc (.cells #[.slice a NT p,dD (dC.dec c)] 274)) W.heap.size NT a p zs c l:=by
 have b:dB W (W.alloc (.cells #[.slice a NT p,dD (dC.dec c)] 274)):=ai;refine⟨aW,aW,λo=>aW,(fA.fq d).below b,g,e.dW b,f.below b,λq h=>?_,e.size,?_⟩
 ·have:=aj (f q h);exact aR
 ·obtain⟨k,m,i,r,s,_⟩:=eZ d;injection i with _ _ j
  subst j;exact aR
theorem fA.set (h:fA w v f){a:Addr}(c:v.ownBlock≠some a.block)(u:Value):fA (w.setCell a u) v f:=by
 obtain⟨d,e,rfl,g,i,j⟩:=h;refine⟨d,e,rfl,g,i,λk hi=>?_⟩;obtain⟨l,b,m⟩:=j k hi;refine⟨l,b,λn=>(ax (λo=>?_)).trans (m n)⟩;apply c;rw[b,o];rfl
theorem AS.store {c':Int}{l:List (Addr × Value)}(h:AS w W n m a i f z l)(r:dB W u)(c:u.ownsRow k 9 1 (.slice d m j) F.length (F.map str))(s:F.length=m)(x:W.heap.size<=k) :
 AS w ((u.setCell (dA n 0) (.slice d m j)).setCell (dA n 1) (dD (dC.dec c'))) n m d j F c' l:=by
 have b:=h.below r;have p:(Value.slice d m j).ownBlock≠some n:=λe=>aQ ((c.lt n e).1) h.hi;refine⟨?_,?_,λo=>by rw[World.frozen?_setCell,World.frozen?_setCell];exact b.fr o,((fA.fq c).set p _).set p _,s,(b.ek.setCell h.lt _).setCell h.lt _,(b.cells.set (λq g e=>h.apart q g (by rw[<-e]))).set (λq g e=>h.apart q g (by rw[<-e])),h.apart,h.lt,?_⟩
 ·rw[ax (λe=>ano)];exact aC b.c0
 ·exact aC ((ax (λe=>ano)).trans b.c1)
 ·obtain⟨y,A,t,B,b,_⟩:=eZ c;injection t with _ _ v
  subst v;exact aR
def GOk (M:Nat)(z:Int):Prop:=0<=z/\(z=0\/∃y:Int,z.natAbs<=y.natAbs/\(dC.dec y).length<=M)
theorem GOk.len (h:GOk n z):(dC.dec z).length<=n+2:=by
 rcases h.2 with h|⟨y,a,b⟩
 ·rw[h,dC.gV];exact aqm
 ·have:=Ry a;exact aR
structure TS (wx wy:World)(tb NT:Nat)(a:eu)(p:Nat)(us:List Int)(c:Int):Prop where
 ek:dB wx wy
 c0:wy.cell? (dA tb 0)=some (.slice a NT p)
 c1:wy.cell? (dA tb 1)=some (dD (dC.dec c))
 fr:∀o,wy.frozen? (dA tb o)=false
 own:wy.ownsRow wx.heap.size 9 1 (.slice a NT p) us.length (us.map str)
 len:us.length=NT
 ne:(Value.slice a NT p).ownBlock≠some tb
 lt:wx.heap.size<=tb
theorem TS.below (h:TS w W n m a k f z)(b:dB W u):TS w u n m a k f z:=by
 have hi:=World.block_lt_of_cell? W (dA n 0) h.c0;exact⟨h.ek.dW b,(b.dL h.c0 hi),(b.dL h.c1 hi),λo=>(b.gq (h.fr o) hi),ownsRow_below h.own b,h.len,h.ne,h.lt⟩
theorem TS.start {wx:World}{NT:Nat}{a:eu}{p:Nat}{us:List Int}{c:Int}(b:w.ownsRow wx.heap.size 9 1 (.slice a NT p) us.length (us.map str))(e:us.length=NT)(d:dB wx w) :
 TS wx (w.alloc (.cells #[.slice a NT p,dD (dC.dec c)] 274)) w.heap.size NT a p us c:=
 ⟨d.fO,aW,aW,λo=>aW,b.alloc _,e,λf=>aP ((b.lt _ f).2),d.size⟩
theorem TS.Mt (h:TS w W n m a k f z)(b:Int):TS w (W.setCell (dA n 1) (dD (dC.dec b))) n m a k f b:=
 ⟨h.ek.setCell h.lt _,(ax (λe=>ano)).trans h.c0,aC h.c1,λo=>by rw[World.frozen?_setCell];exact h.fr o,Cb h.own h.ne _,h.len,h.ne,h.lt⟩
theorem TS.Zg (h:TS w W n m (some (dA k 0)) i f z)(j:Nat)(a:Int):TS w (W.setCell (dA k j) (dD (dC.dec a))) n m (some (dA k 0)) i (f.set j a) z:=by
 obtain⟨d,_⟩:=h.own.lt k rfl;have b:k≠n:=λe=>h.ne (by rw[<-e];rfl);have c:=h.own;rw[h.len]at c;refine⟨h.ek.setCell d _,(ax (λe=>b anS)).trans h.c0,(ax (λe=>b anS)).trans h.c1,λo=>by rw[World.frozen?_setCell];exact h.fr o,?_,by rw[List.length_set];exact h.len,h.ne,h.lt⟩;rw[List.length_set,h.len,List.map_set];exact(c.stored j _).1
theorem TS.cell {p:Nat}(h:TS w W n m a p f z):m<=p/\p<=2 ^ 63-1/\∀j,j<m->∃g u,a=some (dA g 0)/\W.cell? (dA g j)=some u/\∀o,W.frozen? (dA g o)=false:=by
 have b:=h.own;rw[h.len]at b;obtain⟨t,v,e,i,k,l⟩:=eZ b;injection e with q _ r
 subst q r;refine⟨i,k,λj c=>?_⟩;obtain⟨g,d,s,_⟩:=l j c;refine⟨g,str (f[j]'(by rw[h.len];exact c)),d,?_,λo=>?_⟩
 ·rw[s];simp[h.len,c]
 ·rw[d]at b;exact b.frozenAt o
theorem Zf (h:∀y∈f,(dC.dec y).length<=n)(b:(dC.dec z).length<=n):∀y∈f.set m z,(dC.dec y).length<=n:=λy c=>by
 rcases List.mem_or_eq_of_mem_set c with a|a
 ·exact h y a
 ·rw[a];exact b
