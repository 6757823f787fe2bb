import Derived.OneCell
import Derived.Test.YtjiagbaaikifpaaGreatDoorGPL0
set_option maxRecDepth 100000
set_option maxHeartbeats 16000000
namespace Go.Proofs.YtjiagbaaikifpaaGreatDoor
open Go.RowKit Go.Proofs.Tryz
variable {I:List Doc.Item}{W u w:World}{a:eu}{b:List Value}{e:TypeId}{i j k m n:Nat}{l:List Nat}{v:Value}{x:dN}
theorem Ko (h:w.ownsRow n e m v k b)(l:0<k):∃g a,v=dJ g k a/\n<=g/\g<w.heap.size/\k<=a/\a<=2 ^ 63-1:=by
 rcases h.2 with ⟨_,o⟩|⟨g,a,p,c,d,f,i,j,_⟩
 ·exact aR
 ·exact⟨g,a,c,d,(Array.getElem?_eq_some_iff.1 f).1,i,by unfold maxLen at j;omega⟩
theorem ZC {m:Nat}(h:w.ownsRow n e k (.slice a i j) i b)(g:m<=i):w.ownsRow n e k (.slice a m j) m (b.take (m*k)):=by
 have l:=Nat.mul_le_mul_right k g;refine⟨by rw[List.length_take,h.1];omega,?_⟩;rcases h.2 with ⟨c,x⟩|⟨o,y,p,c,q,r,z,s,t,u⟩
 ·injection c with d v f;subst d f;have:m=0:=aR;subst this;exact .inl ⟨rfl,rfl⟩
 ·injection c with d v f;subst d f;refine .inr ⟨o,j,p,rfl,q,r,aR,s,t,?_⟩;rw[<-u,List.take_take,Nat.min_eq_left l]
theorem Tj (l:List Nat)(a:Nat):(ja (l++[a])).take (l.length*1)=ja l:=by
 simp[ja]
theorem Tk (l:List Nat)(a:Nat):(ja (l++[a]))[l.length]?=some (dw (a:Int)):=by
 simp[ja]
theorem WS (a:List Doc.Item):∀x∈a.map jo,x.length=3:=by
 intro x b;obtain⟨t,_,rfl⟩:=List.mem_map.1 b;rfl
theorem aaL (b:List Doc.Item)(a n:Nat)(c:a<b.length):(jZ b).set (a*3+2) (dw (n:Int))=jZ (b.modify a (λd=>{ d with fin:=n })):=by
 induction b generalizing a with
 | nil=>simp at c
 | cons t b e=>
  cases a with
  | zero=>simp[jZ,jo,List.modify_zero_cons]
  | succ a=>
   rw[List.modify_succ_cons];have:=e a (by simpa using c);simp only[jZ,List.map_cons,List.flatten_cons]at this ⊢;rw[show(a+1)*3+2=(jo t).length+(a*3+2) by simp[jo];omega,List.set_append_right _ _ aR,Nat.add_sub_cancel_left,this]
theorem Aw (a:List Doc.Item)(b:Nat):(Doc.qX a b).length=a.length:=by simp[Doc.qX]
theorem ny.closed (h:ny w n x I (l++[m]))(g:w.cell? (dA n 1)=some (dJ k I.length i))(p:w.cell? (dA n 2)=some (.slice a (l.length+1) j))(t:m<I.length) :
 ny ((w.setCell (dA k (m*3+2)) (dw (I.length:Int))).setCell (dA n 2) (.slice a l.length j)) n x (Doc.qX I m) l/\Below n w ((w.setCell (dA k (m*3+2)) (dw (I.length:Int))).setCell (dA n 2) (.slice a l.length j)):=by
 obtain⟨y,b,d⟩:=h.items;obtain⟨z,c,e⟩:=h.opens;rw[g]at b;injection b with b;subst b
 rw[p]at c;injection c with c;subst c;have A:=(d.lt k rfl).1;have f:n≠k:=aR;obtain⟨q,_⟩:=d.stored (m*3+2) (dw (I.length:Int));have u:=Cc e d aY;have v:(l++[m]).length=l.length+1:=aW;rw[v]at e;have r:=ZC e (m:=l.length) aR;rw[Tj]at r;refine⟨⟨amC,?_,⟨dJ k I.length i,?_,?_⟩,⟨.slice a l.length j,?_,?_⟩,λo=>by rw[World.frozen?_setCell,World.frozen?_setCell];exact h.fr o⟩,?_⟩
 ·exact setOther _ _ (setOther _ _ h.text (.inl f)) (.inr aW)
 ·exact setOther _ _ (setOther _ _ g (.inl f)) (.inr aW)
 ·rw[Aw];rw[aaL I m I.length t]at q;exact ownsRow_setCell_below q alT _
 ·exact aC (setOther _ _ p (.inl f))
 ·refine ownsRow_setCell_below (ownsRow_setCell_other r ?_ _) alT _;intro s;refine u k ?_ rfl;cases a with
  | none=>simp[Value.ownBlock]at s
  | some B=>exact s
 ·exact((Below.refl n w).setCell (by show n<=k;omega) _).setCell ae _
theorem Qh (e:Nat)(l:dN)(a:List Doc.Item)(c:List Nat)(b:Nat)(w:World)(h:ny w e l a (c++[b]))(v:a.length<=1000000)(x:c.length<=1000)(j:b<a.length) :
 dH 170 #[dK e 0] w λk m=>k=dF (dM #[])/\IK w m e l (Doc.qX a b) c:=by
 have y:=h.lt;have H:=dn h;obtain⟨z,n,d⟩:=h.items;obtain⟨o,A,rfl,B,C,D,E⟩:=Ko d aR;obtain⟨F,p,f⟩:=h.opens;have g:(c++[b]).length=c.length+1:=aW;rw[g]at f;obtain⟨G,I,rfl,J,K,L,M⟩:=Ko f aR;have q:=f.cellAt c.length aR;rw[Tk]at q;have i:=d.cellAt (b*3+2) aR;have N:=d.frozenAt (b*3+2);have O:=h.fr 2;have P:(jZ a).length=a.length*3:=d.1;rw[aF aR]at i;generalize (jZ a)[b*3+2]=Q at i;have r:e≠o:=aR;have R:=r.symm;have s:=dn (H.o.closed n p j);clear h d f g;go_enter func170,ntmps170;go_wp2_with fail;go_region;go_wp2;go_end0;obtain⟨t,u⟩:=s.o;exact⟨rfl,t.below (af.drew),u.drew⟩
structure IL (l:dN)(i:Nat)(its:List Doc.Item)(op:List Nat):Prop where
 deep:op.length<=12
 lt:∀a∈op,a<its.length
 few:its.length<=i
 i:i<=l.length
def OO (w w':World)(sb:Nat)(l:dN)(i:Nat)(its:List Doc.Item)(op:List Nat)(e:Ending):Prop:=
 (∃m er:Nat,er≠0/\e=dF (dM #[dw m,dw er])/\Doc.fC l i its op=.error (er,i)/\Below sb w w')\/
 (∃n aad op',e=dF (dM #[dw (n:Nat),dw 0])/\0<n/\IL l (i+n) aad op'/\Doc.fC l i its op=Doc.fC l (i+n) aad op'/\IK w w' sb l aad op')
theorem L9 (l:dN)(i:Nat):List.drop i (List.take (i+(Doc.gQ l i).length) l)=Doc.gQ l i:=by
 rw[List.drop_take,Nat.add_sub_cancel_left];exact(List.prefix_iff_eq_take.1 (List.takeWhile_prefix _)).symm
theorem Sz (k:Nat)(l:dN)(i:Nat)(a:List Doc.Item)(b:List Nat)(w:World)(h:ny w k l a b)(hi:i<l.length)(X:l.length<=1000000)(z:IL l i a b) :
 dH 119 #[dK k 0,dw i] w λo Y=>OO w Y k l i a b o:=by
 have hR:=gU;have H:=dn h;have hlt:=h.lt;have htx:=h.text;obtain⟨v2,hv2,N⟩:=h.opens;obtain⟨KS,cap2,rfl,hd1,hd2⟩:=ik N;have s:=dn z;have O:=z.deep;have qB:=z.few;have m:=dn (Doc.oV (its:=a) (op:=b) hi);have Z:=dn (Qi k l a b i w h aR aR);have B:=dn (Ji l i w aR X);have P:=dn (L9 l i);have A:=dn (Doc.zx (l:=l) (i:=i) aR);have t32:((l[i].toNat:Int)==32)=(l[i]==32):=p9 (n:=32) aR;have t10:((l[i].toNat:Int)==10)=(l[i]==10):=p9 (n:=10) aR;have t40:((l[i].toNat:Int)==40)=(l[i]==40):=p9 (n:=40) aR;have t41:((l[i].toNat:Int)==41)=(l[i]==41):=p9 (n:=41) aR;have C:Hid (Doc.jh l[i]=(l[i]==32||l[i]==10)):=rfl;have Q:Hid ((l[i]=40)↔(l[i]==40)=true):=by show _↔_;simp
 have R:Hid ((l[i]=41)↔(l[i]==41)=true):=by show _↔_;simp
 clear h N z;generalize (l[i]==32)=b32 at *;generalize (l[i]==10)=b10 at *;generalize (l[i]==40)=b40 at *;generalize (l[i]==41)=b41 at *
 have S:∀D,Doc.jh l[i]=D->D=true->OO w w k l i a b (dF (dM #[dw 1,dw 0])):=λD hb h=>by
  refine .inr ⟨1,a,b,rfl,aR,⟨O,s.o.lt,aR,aR⟩,?_,H.o,af⟩;rw[m.o,if_pos (by rw[hb];exact h)]
 have T:=dn S;clear S;cases b32 with
 | true=>
  go_enter func119,ntmps119;go_wp2;go_ret2;exact T.o _ C.o rfl
 | false=>
  cases b10 with
  | true=>
   go_enter func119,ntmps119;go_wp2;go_ret2;exact T.o _ C.o rfl
  | false=>
   have p:Hid (¬Doc.jh l[i]=true):=by show ¬_;rw[C.o];simp
   cases b40 with
   | true=>
    have E:Hid (l[i]=40):=Q.o.2 rfl;go_enter func119,ntmps119;go_wp2_with fail;refine Z.o.mono ?_;rintro o F hp;rcases hp with ⟨e,d,rfl,rfl⟩|⟨e,d,rfl,rfl⟩|⟨e,d,rfl,f,g⟩
    ·have c:Hid (Doc.fC l i a b=.error (2,i)):=by
      show _=_;rw[m.o,if_neg p.o,if_pos E.o,if_pos ⟨e,d⟩]
     clear e d;go_wp2;go_ret2;exact .inl ⟨1,2,aR,rfl,c.o,af⟩
    ·have c:Hid (Doc.fC l i a b=.error (3,i)):=by
      show _=_;rw[m.o,if_neg p.o,if_pos E.o,if_neg e,if_pos d]
     clear e d;go_wp2;go_ret2;exact .inl ⟨1,3,aR,rfl,c.o,af⟩
    ·have c:Hid (Doc.fC l i a b=Doc.fC l (i+1) (a++[⟨i,[],a.length+1⟩]) (b++[a.length])):=by
      show _=_;rw[m.o,if_neg p.o,if_pos E.o,if_neg e,if_neg d]
     have C2:=dn d;have t:=dn f;have u:=dn g;clear e d f g;go_wp2;go_ret2;refine .inr ⟨1,_,_,rfl,aR,⟨?_,?_,aX,aR⟩,c.o,t.o,u.o⟩
     ·have:=C2.o;exact aX
     ·intro j v;rcases List.mem_append.1 v with v|v
      ·have:=s.o.lt j v;exact aX
      ·rw[List.mem_singleton.1 v];exact aW
   | false=>
    have G:Hid (¬l[i]=40):=by
     intro h;have:=Q.o.1 h;cases this
    by_cases x:b.length=0
    ·have o1:((b.length:Int)==0)=true:=by rw[x];rfl
     have c:Hid (Doc.fC l i a b=.error (2,i)):=by
      show _=_;rw[m.o,if_neg p.o,if_neg G.o,if_pos x]
     clear x;go_enter func119,ntmps119;go_wp2;go_ret2;exact .inl ⟨0,2,aR,rfl,c.o,af⟩
    ·have o1:((b.length:Int)==0)=false:=ak aR;have I:=dn x;clear x;cases b41 with
     | true=>
      have aj4:Hid (l[i]=41):=R.o.2 rfl;obtain⟨q,j,r⟩:∃q j,b=q++[j]:=⟨b.dropLast,b.getLast (λo=>I.o (by rw[o];rfl)),(List.dropLast_concat_getLast _).symm⟩
      have c:Hid (Doc.fC l i a b=Doc.fC l (i+1) (Doc.qX a j) q):=by
       show _=_;rw[m.o,if_neg p.o,if_neg G.o,if_neg I.o,if_pos aj4.o,r];exact aW
      have U:=s.o.lt j (by rw[r];simp);have hol:b.length=q.length+1:=by rw[r];simp
      have rY:=dn (Qh k l a q j w (by rw[<-r];exact H.o) aR aR U);have HI2:Hid (IL l (i+1) (Doc.qX a j) q):=⟨aR,λJ K=>by rw[Aw];exact s.o.lt J (by rw[r];simp[K]),by rw[Aw];omega,aR⟩;clear r U hol;go_enter func119,ntmps119;go_wp2_with fail;refine rY.o.mono ?_;rintro o F ⟨rfl,f,g⟩;have t:=dn f;have u:=dn g;clear f g;go_wp2;go_ret2;exact .inr ⟨1,_,_,rfl,aR,HI2.o,c.o,t.o,u.o⟩
     | false=>
      have ajo:Hid (¬l[i]=41):=by
       intro h;have:=R.o.1 h;cases this
      have y:Hid (Doc.fC l i a b=if (Doc.gQ l i).length=0 then .error (2,i) else Doc.fC l (i+(Doc.gQ l i).length) (a++[⟨i,Doc.gQ l i,a.length+1⟩]) b):=by
       show _=_;rw[m.o,if_neg p.o,if_neg G.o,if_neg I.o,if_neg ajo.o]
      obtain⟨n,L⟩:=aK ((Doc.gQ l i).length);rw[L]at B P y A;have V:=A.o
      by_cases W:n=0
      ·subst W
       have c:Hid (Doc.fC l i a b=.error (2,i)):=by
        show _=_;rw[y.o,if_pos rfl]
       clear y L A V;go_enter func119,ntmps119;go_wp2_with fail;refine B.o.dX λF M=>?_;subst M;go_wp2;go_ret2;exact .inl ⟨0,2,aR,rfl,c.o,af⟩
      ·have o0:((n:Int)==0)=false:=ak aR
       have c:Hid (Doc.fC l i a b=Doc.fC l (i+n) (a++[⟨i,List.drop i (List.take (i+n) l),a.length+1⟩]) b):=by
        show _=_;rw[y.o,if_neg W,P.o]
       have uM:=dn (Kg k l a b i 0 (List.drop i (List.take (i+n) l)) w H.o aR);clear y L A;go_enter func119,ntmps119;go_wp2_with fail;refine B.o.dX λF M=>?_;subst M;go_wp2_with fail;refine uM.o.mono ?_;rintro o w2 ⟨rfl,f,g⟩;have t:=dn f;have u:=dn g;clear f g;go_wp2;go_ret2;exact .inr ⟨n,_,_,rfl,aR,⟨O,λJ K=>by have:=s.o.lt J K;simp;omega,aX,V⟩,c.o,t.o,u.o⟩
def z8 (w:World)(base:Nat)(v:Value)(its:List Doc.Item):Prop:=gu v its.length (λg i=>base<=g/\∀h:i<its.length,uD w g (i*3) its[i])
theorem z8.fq {base:Nat}(h:w.ownsRow base 129 3 v I.length (jZ I)):z8 w base v I:=by
 have c:=yj (xs:=I.map jo) h aW (WS I);refine gu.imp c λg i hi b=>⟨b.1,λd=>?_⟩;have a:=λj e u f=>b.2 anF j e u f;simp only[List.getElem_map]at a;exact⟨a 0 aR _ rfl,a 1 aR _ rfl,a 2 aR _ rfl⟩
def abq (w':World)(base:Nat)(R:Except (Nat × Nat) (List Doc.Item))(e:Ending):Prop:=
 match R with
 | .ok its=>∃v,e=dF (dM #[v,.agg #[dw 0,dw 0]])/\z8 w' base v its/\its.length<=1000000
 | .error x=>e=dF (dM #[dE,.agg #[dw x.1,dw x.2]])
theorem ny.start (w:World)(l:dN):ny ((w.alloc (.cells #[dw 0,dw 0] 64)).alloc (.cells #[dD l,dE,dE] 187)) (w.heap.size+1) l [] []:=
 ⟨aW,aW,⟨dE,aW,World.ownsRow_nil _ _ _ _⟩,⟨dE,aW,World.ownsRow_nil _ _ _ _⟩,al7⟩
structure CZ (w wx:World):Prop where
 below:dB w wx
 c0:wx.cell? (dA w.heap.size 0)=some (dw 0)
 c1:wx.cell? (dA w.heap.size 1)=some (dw 0)
 fr:∀o,wx.frozen? (dA w.heap.size o)=false
theorem CZ.next (h:CZ w W)(a:Below (w.heap.size+1) W u):CZ w u:=
 ⟨h.below.trans (a.mono aR),(a.dL h.c0 aZ),(a.dL h.c1 aZ),λo=>(a.gq (h.fr o) aZ)⟩
theorem CZ.start (w:World)(l:dN):CZ w ((w.alloc (.cells #[dw 0,dw 0] 64)).alloc (.cells #[dD l,dE,dE] 187)):=
 ⟨ai.alloc aW _,aW,aW,al7⟩
theorem CZ.set (h:CZ w W)(a b:Value):((W.setCell (dA w.heap.size 0) a).setCell (dA w.heap.size 1) b).cell? (dA w.heap.size 0)=some a/\((W.setCell (dA w.heap.size 0) a).setCell (dA w.heap.size 1) b).cell? (dA w.heap.size 1)=some b/\dB w ((W.setCell (dA w.heap.size 0) a).setCell (dA w.heap.size 1) b)/\(W.setCell (dA w.heap.size 0) a).cell? (dA w.heap.size 1)=some (dw 0):=by
 have z:=setOther W (a:=dA w.heap.size 1) (b:=dA w.heap.size 0) a h.c1 (.inr aW);exact⟨setOther _ _ (aC h.c0) (.inr aW),aC z,(h.below.setCell ae _).setCell ae _,z⟩
theorem abp (l:dN)(w:World)(L:l.length<=1000000) :
 dH 78 #[dD l] w λz A=>abq A w.heap.size (Doc.read l) z/\dB w A:=by
 have hR:=gU;have M:=dn (ny.start w l);have N:=dn (CZ.start w l);have O:Hid (IL l 0 [] []):=⟨aW,aW,aW,aR⟩;have P:Hid (Doc.read l=Doc.fC l 0 [] []):=rfl;generalize Doc.read l=R at *;go_enter func78,ntmps78;go_wp2_with fail
 go_loopw [5] (fun v wr=>∃(i:Nat) (a:List Doc.Item) (e:List Nat),v=dw i/\IL l i a e/\R=Doc.fC l i a e/\ny wr (w.heap.size+1) l a e/\CZ w wr) (fun v _=>l.length-(intOf v).toNat)
 ·exact⟨0,[],[],rfl,O.o,P.o,M.o,N.o⟩
 case round=>
  obtain⟨i,a,e,rfl,f,B,C,D⟩:=hrel;have t:=dn B;have u:=dn C;have d:=dn D;have Q:=dn f;have hii:=f.i;clear B C D
  by_cases S:i<l.length
  ·have T:=dn (Sz (w.heap.size+1) l i a e wr u.o S L Q.o);clear f;go_wp2_with fail;refine T.o.mono ?_;rintro z w1 p;rcases p with ⟨bn,q,her,rfl,b,g⟩|⟨E,F,G,rfl,hn,x,b,H,g⟩
   ·have h:=d.o.next g;have U:=h.c0;have V:=h.c1;have W:=h.fr;have hen:((q:Int) !=0)=true:=bJ;obtain⟨j,k,c,I⟩:=h.set (dw q) (dw i);have m:Hid (R=.error (q,i)):=by show _=_;rw[t.o,b]
    have n:=dn c;clear b g h c;go_wp2_with fail;rw[m.o];exact dR (dM #[dE,.agg #[dw q,dw i]]) anJ rfl ⟨rfl,n.o⟩
   ·have X:=dn x;have ak8:=x.i;have r:Hid (R=Doc.fC l (i+E) F G):=by show _=_;rw[t.o,b]
    have Y:=dn H;have Z:=dn (d.o.next g);clear x b H g;go_wp2;go_roundw
    ·exact⟨i+E,F,G,bL,X.o,r.o,Y.o,Z.o⟩
    ·exact aph
  ·have hie:i=l.length:=aR;have b:=t.o;rw[Doc.Cy hie]at b;have r:=dn b;obtain⟨v,hv,y⟩:=u.o.items;obtain⟨ao,cap,rfl,hc1,hc2⟩:=ik y;obtain⟨v2,hv2,J⟩:=u.o.opens;obtain⟨KS,cap2,rfl,hd1,hd2⟩:=ik J;have HOWN:=dn y;have h12:=f.deep;have qB:=f.few;have U:=d.o.c0;have V:=d.o.c1;have W:=d.o.fr;clear b y J f;generalize e.length=no at *
   by_cases o:no>0\/a.length=0
   ·obtain⟨j,k,c,I⟩:=d.o.set (dw 2) (dw l.length);have m:Hid (R=.error (2,l.length)):=by show _=_;rw[r.o,if_pos o]
    have n:=dn c;clear c
    have s:0<no\/(no=0/\((a.length:Int)==0)=true):=by
     by_cases bg:0<no
     ·exact .inl bg
     ·exact .inr ⟨aR,by rcases o with K|K;omega;rw[K];rfl⟩
    clear o;rcases s with s|⟨rfl,hcs2⟩
    all_goals
     go_wp2_with fail;rw[m.o];exact dR (dM #[dE,.agg #[dw 2,dw l.length]]) anJ rfl ⟨rfl,n.o⟩
   ·obtain⟨j,k,c,I⟩:=d.o.set (dw 0) (dw 0);have m:Hid (R=.ok a):=by show _=_;rw[r.o,if_neg o]
    have n:=dn c;have s:no=0:=aR;have hcs2:((a.length:Int)==0)=false:=ak aR;clear c o;subst s;go_wp2_with fail;rw[m.o];refine dR (dM #[.slice ao a.length cap,.agg #[dw 0,dw 0]]) anJ rfl ⟨⟨_,rfl,?_,aR⟩,n.o⟩;have ho:=ownsRow_setCell_below (a:=dA w.heap.size 1) (ownsRow_setCell_below (a:=dA w.heap.size 0) HOWN.o aZ (dw 0)) aZ (dw 0);exact gu.imp (z8.fq ho) λbq i _ p=>⟨aP p.1,p.2⟩
