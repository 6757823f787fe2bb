import Derived.OneCell
import Derived.Test.YtbichedkajfmiaaGreatDoorGPL0
import Derived.Test.YtbichedkajfmiaaGreatDoorC
set_option maxRecDepth 100000
set_option maxHeartbeats 16000000
namespace Go.Proofs.YtbichedkajfmiaaGreatDoor
open Go.RowKit
variable {I:List Doc.Item}{W u w:World}{a:Option Addr}{b:List Value}{e:TypeId}{i j k m n:Nat}{l:List Nat}{v:Value}{x:List UInt8}
theorem GN (h:w.ownsRow n e m v k b)(l:0<k):∃g a,v=.slice (some ⟨g,0,none⟩) k a/\n<=g/\g<w.heap.size/\k<=a/\a<=2 ^ 63-1:=by
 rcases h.2 with ⟨_,o⟩|⟨g,a,p,c,d,f,i,j,_⟩
 ·exact aO
 ·exact⟨g,a,c,d,(Array.getElem?_eq_some_iff.1 f).1,i,by unfold maxLen at j;omega⟩
theorem Vn {m:Nat}(h:w.ownsRow n e k (.slice a i j) i b)(g:m<=i):w.ownsRow n e k (.slice a m j) m (b.take (m*k)):=by
 have l:=Nat.mul_le_mul_right k g;refine⟨by rw[List.length_take,h.1];omega,?_⟩;rcases h.2 with ⟨c,x⟩|⟨o,y,p,c,q,r,z,s,t,u⟩
 ·injection c with d v f;subst d f;have:m=0:=aO;subst this;exact .inl ⟨rfl,rfl⟩
 ·injection c with d v f;subst d f;refine .inr ⟨o,j,p,rfl,q,r,aO,s,t,?_⟩;rw[<-u,List.take_take,Nat.min_eq_left l]
theorem Pk (l:List Nat)(a:Nat):(gX (l++[a])).take (l.length*1)=gX l:=by
 simp[gX]
theorem Pm (l:List Nat)(a:Nat):(gX (l++[a]))[l.length]?=some (.int .i64 (a:Int)):=by
 simp[gX]
theorem Su (a:List Doc.Item):∀x∈a.map iD,x.length=3:=by
 intro x b;obtain⟨t,_,rfl⟩:=List.mem_map.1 b;rfl
theorem WG (b:List Doc.Item)(a n:Nat)(c:a<b.length):(jb b).set (a*3+2) (.int .i64 (n:Int))=jb (b.modify a (fun d=>{ d with fin:=n })):=by
 induction b generalizing a with
 | nil=>simp at c
 | cons t b e=>
  cases a with
  | zero=>simp[jb,iD,List.modify_zero_cons]
  | succ a=>
   rw[List.modify_succ_cons];have:=e a (by simpa using c);simp only[jb,List.map_cons,List.flatten_cons]at this ⊢;rw[show(a+1)*3+2=(iD t).length+(a*3+2) by simp[iD];omega,List.set_append_right _ _ aO,Nat.add_sub_cancel_left,this]
theorem xY (a:List Doc.Item)(b:Nat):(Doc.oF a b).length=a.length:=by simp[Doc.oF]
theorem lD.closed (h:lD w n x I (l++[m]))(g:w.cell? ⟨n,1,none⟩=some (.slice (some ⟨k,0,none⟩) I.length i))(p:w.cell? ⟨n,2,none⟩=some (.slice a (l.length+1) j))(t:m<I.length) :
 lD ((w.setCell ⟨k,m*3+2,none⟩ (.int .i64 (I.length:Int))).setCell ⟨n,2,none⟩ (.slice a l.length j)) n x (Doc.oF I m) l/\Below n w ((w.setCell ⟨k,m*3+2,none⟩ (.int .i64 (I.length:Int))).setCell ⟨n,2,none⟩ (.slice a l.length j)):=by
 obtain⟨y,b,d⟩:=h.items;obtain⟨z,c,e⟩:=h.opens;rw[g]at b;injection b with b;subst b
 rw[p]at c;injection c with c;subst c;have A:=(d.lt k rfl).1;have f:n≠k:=aO;obtain⟨q,_⟩:=d.stored (m*3+2) (.int .i64 (I.length:Int));have u:=zA e d aR;have v:(l++[m]).length=l.length+1:=aP;rw[v]at e;have r:=Vn e (m:=l.length) aO;rw[Pk]at r;refine⟨⟨ajg,?_,⟨.slice (some ⟨k,0,none⟩) I.length i,?_,?_⟩,⟨.slice a l.length j,?_,?_⟩,fun o=>by rw[World.frozen?_setCell,World.frozen?_setCell];exact h.fr o⟩,?_⟩
 ·exact setOther _ _ (setOther _ _ h.text (.inl f)) (.inr aP)
 ·exact setOther _ _ (setOther _ _ g (.inl f)) (.inr aP)
 ·rw[xY];rw[WG I m I.length t]at q;exact ownsRow_setCell_below q dh _
 ·exact World.cell?_setCell_same _ _ _ (setOther _ _ p (.inl f))
 ·refine ownsRow_setCell_below (ownsRow_setCell_other r ?_ _) dh _;intro s;refine u k ?_ rfl;cases a with
  | none=>simp[Value.ownBlock]at s
  | some B=>exact s
 ·exact((Below.refl n w).setCell (by show n<=k;omega) _).setCell ae _
theorem Mw (e:Nat)(l:List UInt8)(a:List Doc.Item)(c:List Nat)(b:Nat)(w:World)(h:lD w e l a (c++[b]))(v:a.length<=1000000)(x:c.length<=1000)(j:b<a.length) :
 Calls Tryz.prog 165 #[.pointer (some ⟨e,0,none⟩)] w fun k m=>k=.returned (.tuple #[])/\EZ w m e l (Doc.oF a b) c:=by
 have y:=h.lt;have H:=di h;obtain⟨z,n,d⟩:=h.items;obtain⟨o,A,rfl,B,C,D,E⟩:=GN d aO;obtain⟨F,p,f⟩:=h.opens;have g:(c++[b]).length=c.length+1:=aP;rw[g]at f;obtain⟨G,I,rfl,J,K,L,M⟩:=GN f aO;have q:=f.cellAt c.length aO;rw[Pm]at q;have i:=d.cellAt (b*3+2) aO;have N:=d.frozenAt (b*3+2);have O:=h.fr 2;have P:(jb a).length=a.length*3:=d.1;rw[aD aO]at i;generalize (jb a)[b*3+2]=Q at i;have r:e≠o:=aO;have R:=r.symm;have s:=di (H.o.closed n p j);clear h d f g;go_enter Tryz.func165,Tryz.ntmps165;go_wp2_with fail;go_region;go_wp2_with fail;go_end0;obtain⟨t,u⟩:=s.o;exact⟨rfl,t.below (af.drew),u.drew⟩
structure E5 (l:List UInt8)(i:Nat)(its:List Doc.Item)(op:List Nat):Prop where
 deep:op.length<=12
 lt:∀a∈op,a<its.length
 few:its.length<=i
 i:i<=l.length
def Lh (w w':World)(sb:Nat)(l:List UInt8)(i:Nat)(its:List Doc.Item)(op:List Nat)(e:Ending):Prop:=
 (∃m er:Nat,er≠0/\e=.returned (.tuple #[.int .i64 m,.int .i64 er])/\Doc.ek l i its op=.error (er,i)/\Below sb w w')\/
 (∃n VP op',e=.returned (.tuple #[.int .i64 (n:Nat),.int .i64 0])/\0<n/\E5 l (i+n) VP op'/\Doc.ek l i its op=Doc.ek l (i+n) VP op'/\EZ w w' sb l VP op')
theorem Jb (l:List UInt8)(i:Nat):List.drop i (List.take (i+(Doc.fu l i).length) l)=Doc.fu l i:=by
 rw[List.drop_take,Nat.add_sub_cancel_left];exact(List.prefix_iff_eq_take.1 (List.takeWhile_prefix _)).symm
theorem OM (m:Nat)(l:List UInt8)(i:Nat)(a:List Doc.Item)(b:List Nat)(w:World)(h:lD w m l a b)(hi:i<l.length)(X:l.length<=1000000)(z:E5 l i a b) :
 Calls Tryz.prog 117 #[.pointer (some ⟨m,0,none⟩),.int .i64 i] w fun e Y=>Lh w Y m l i a b e:=by
 have hR:=fJ;have H:=di h;have hlt:=h.lt;have htx:=h.text;obtain⟨v2,hv2,N⟩:=h.opens;obtain⟨Hw,cap2,rfl,hd1,hd2⟩:=fM N;have s:=di z;have O:=z.deep;have pO:=z.few;have o:=di (Doc.mD (its:=a) (op:=b) hi);have Z:=di (Mx m l a b i w h aO aO);have B:=di (FC l i w aO X);have P:=di (Jb l i);have A:=di (Doc.wS (l:=l) (i:=i) aO);have t32:((l[i].toNat:Int)==32)=(l[i]==32):=mX (n:=32) aO;have t10:((l[i].toNat:Int)==10)=(l[i]==10):=mX (n:=10) aO;have t40:((l[i].toNat:Int)==40)=(l[i]==40):=mX (n:=40) aO;have t41:((l[i].toNat:Int)==41)=(l[i]==41):=mX (n:=41) aO;have C:Hid (Doc.iq l[i]=(l[i]==32||l[i]==10)):=rfl;have Q:Hid ((l[i]=40)↔(l[i]==40)=true):=by show _↔_;simp
 have R:Hid ((l[i]=41)↔(l[i]==41)=true):=by show _↔_;simp
 clear h N z;generalize (l[i]==32)=b32 at *;generalize (l[i]==10)=b10 at *;generalize (l[i]==40)=b40 at *;generalize (l[i]==41)=b41 at *
 have S:∀D,Doc.iq l[i]=D->D=true->Lh w w m l i a b (.returned (.tuple #[.int .i64 1,.int .i64 0])):=fun D hb h=>by
  refine .inr ⟨1,a,b,rfl,aO,⟨O,s.o.lt,aO,aO⟩,?_,H.o,af⟩;rw[o.o,if_pos (by rw[hb];exact h)]
 have T:=di S;clear S;cases b32 with
 | true=>
  exact amR
 | false=>
  cases b10 with
  | true=>
   exact amR
  | false=>
   have p:Hid (¬Doc.iq l[i]=true):=by show ¬_;rw[C.o];simp
   cases b40 with
   | true=>
    have E:Hid (l[i]=40):=Q.o.2 rfl;go_enter Tryz.func117,Tryz.ntmps117;go_wp2_with fail;refine Z.o.mono ?_;rintro e F hp;rcases hp with ⟨f,d,rfl,rfl⟩|⟨f,d,rfl,rfl⟩|⟨f,d,rfl,g,j⟩
    ·have c:Hid (Doc.ek l i a b=.error (2,i)):=by
      show _=_;rw[o.o,if_neg p.o,if_pos E.o,if_pos ⟨f,d⟩]
     clear f d;go_wp2_with fail;go_ret2;exact .inl ⟨1,2,aO,rfl,c.o,af⟩
    ·have c:Hid (Doc.ek l i a b=.error (3,i)):=by
      show _=_;rw[o.o,if_neg p.o,if_pos E.o,if_neg f,if_pos d]
     clear f d;go_wp2_with fail;go_ret2;exact .inl ⟨1,3,aO,rfl,c.o,af⟩
    ·have c:Hid (Doc.ek l i a b=Doc.ek l (i+1) (a++[⟨i,[],a.length+1⟩]) (b++[a.length])):=by
      show _=_;rw[o.o,if_neg p.o,if_pos E.o,if_neg f,if_neg d]
     have C2:=di d;have t:=di g;have u:=di j;clear f d g j;go_wp2_with fail;go_ret2;refine .inr ⟨1,_,_,rfl,aO,⟨?_,?_,aQ,aO⟩,c.o,t.o,u.o⟩
     ·have:=C2.o;exact aQ
     ·intro k v;rcases List.mem_append.1 v with v|v
      ·have:=s.o.lt k v;exact aQ
      ·rw[List.mem_singleton.1 v];exact aP
   | false=>
    have G:Hid (¬l[i]=40):=by
     intro h;have:=Q.o.1 h;cases this
    by_cases x:b.length=0
    ·have o1:((b.length:Int)==0)=true:=by rw[x];rfl
     have c:Hid (Doc.ek l i a b=.error (2,i)):=by
      show _=_;rw[o.o,if_neg p.o,if_neg G.o,if_pos x]
     clear x;go_enter Tryz.func117,Tryz.ntmps117;go_wp2_with fail;go_ret2;exact .inl ⟨0,2,aO,rfl,c.o,af⟩
    ·have o1:((b.length:Int)==0)=false:=aj aO;have I:=di x;clear x;cases b41 with
     | true=>
      have af8:Hid (l[i]=41):=R.o.2 rfl;obtain⟨q,k,r⟩:∃q k,b=q++[k]:=⟨b.dropLast,b.getLast (fun e=>I.o akj),(List.dropLast_concat_getLast _).symm⟩
      have c:Hid (Doc.ek l i a b=Doc.ek l (i+1) (Doc.oF a k) q):=by
       show _=_;rw[o.o,if_neg p.o,if_neg G.o,if_neg I.o,if_pos af8.o,r];exact aP
      have U:=s.o.lt k (by rw[r];simp);have hol:b.length=q.length+1:=by rw[r];simp
      have uL:=di (Mw m l a q k w (by rw[<-r];exact H.o) aO aO U);have HI2:Hid (E5 l (i+1) (Doc.oF a k) q):=⟨aO,fun J K=>by rw[xY];exact s.o.lt J (by rw[r];simp[K]),by rw[xY];omega,aO⟩;clear r U hol;go_enter Tryz.func117,Tryz.ntmps117;go_wp2_with fail;refine uL.o.mono ?_;rintro e F ⟨rfl,g,j⟩;have t:=di g;have u:=di j;clear g j;go_wp2_with fail;go_ret2;exact .inr ⟨1,_,_,rfl,aO,HI2.o,c.o,t.o,u.o⟩
     | false=>
      have afx:Hid (¬l[i]=41):=by
       intro h;have:=R.o.1 h;cases this
      have y:Hid (Doc.ek l i a b=if (Doc.fu l i).length=0 then .error (2,i) else Doc.ek l (i+(Doc.fu l i).length) (a++[⟨i,Doc.fu l i,a.length+1⟩]) b):=by
       show _=_;rw[o.o,if_neg p.o,if_neg G.o,if_neg I.o,if_neg afx.o]
      obtain⟨n,L⟩:=aJ ((Doc.fu l i).length);rw[L]at B P y A;have V:=A.o
      by_cases W:n=0
      ·subst W
       have c:Hid (Doc.ek l i a b=.error (2,i)):=by
        show _=_;rw[y.o,if_pos rfl]
       clear y L A V;go_enter Tryz.func117,Tryz.ntmps117;go_wp2_with fail;refine B.o.mono ?_;rintro e F ⟨rfl,M⟩;subst M;go_wp2_with fail;go_ret2;exact .inl ⟨0,2,aO,rfl,c.o,af⟩
      ·have o0:((n:Int)==0)=false:=aj aO
       have c:Hid (Doc.ek l i a b=Doc.ek l (i+n) (a++[⟨i,List.drop i (List.take (i+n) l),a.length+1⟩]) b):=by
        show _=_;rw[y.o,if_neg W,P.o]
       have wQ:=di (GD m l a b i 0 (List.drop i (List.take (i+n) l)) w H.o aO);clear y L A;go_enter Tryz.func117,Tryz.ntmps117;go_wp2_with fail;refine B.o.mono ?_;rintro e F ⟨rfl,M⟩;subst M;go_wp2_with fail;refine wQ.o.mono ?_;rintro e w2 ⟨rfl,g,j⟩;have t:=di g;have u:=di j;clear g j;go_wp2_with fail;go_ret2;exact .inr ⟨n,_,_,rfl,aO,⟨O,fun J K=>by have:=s.o.lt J K;simp;omega,aQ,V⟩,c.o,t.o,u.o⟩
def qo (w:World)(base:Nat)(v:Value)(its:List Doc.Item):Prop:=fA v its.length (fun g i=>base<=g/\∀h:i<its.length,qZ w g (i*3) its[i])
theorem qo.items (h:qo w n v I):qp w v I:=fA.imp h fun _ _ _ a=>a.2
theorem qo.dW {base:Nat}(h:w.ownsRow base 129 3 v I.length (jb I)):qo w base v I:=by
 have c:=vw (xs:=I.map iD) h aP (Su I);refine fA.imp c fun g i hi b=>⟨b.1,fun d=>?_⟩;have a:=fun j e u f=>b.2 ajw j e u f;simp only[List.getElem_map]at a;exact⟨a 0 aO _ rfl,a 1 aO _ rfl,a 2 aO _ rfl⟩
def Xk (w':World)(base:Nat)(R:Except (Nat × Nat) (List Doc.Item))(e:Ending):Prop:=
 match R with
 | .ok its=>∃v,e=.returned (.tuple #[v,.agg #[.int .i64 0,.int .i64 0]])/\qo w' base v its/\its.length<=1000000
 | .error x=>e=.returned (.tuple #[.slice none 0 0,.agg #[.int .i64 x.1,.int .i64 x.2]])
theorem lD.start (w:World)(l:List UInt8):lD ((w.alloc (.cells #[.int .i64 0,.int .i64 0] 64)).alloc (.cells #[.string ⟨l.toArray⟩,.slice none 0 0,.slice none 0 0] 186)) (w.heap.size+1) l [] []:=
 ⟨aP,aP,⟨.slice none 0 0,aP,World.ownsRow_nil _ _ _ _⟩,⟨.slice none 0 0,aP,World.ownsRow_nil _ _ _ _⟩,ah6⟩
structure Ai (w wx:World):Prop where
 below:Below w.heap.size w wx
 c0:wx.cell? ⟨w.heap.size,0,none⟩=some (.int .i64 0)
 c1:wx.cell? ⟨w.heap.size,1,none⟩=some (.int .i64 0)
 fr:∀o,wx.frozen? ⟨w.heap.size,o,none⟩=false
theorem Ai.next (h:Ai w W)(a:Below (w.heap.size+1) W u):Ai w u:=
 ⟨h.below.trans (a.mono aO),(a.cell (p:=⟨w.heap.size,0,none⟩) aW).trans h.c0,(a.cell (p:=⟨w.heap.size,1,none⟩) aW).trans h.c1,fun o=>(a.frozen (p:=⟨w.heap.size,o,none⟩) aW).trans (h.fr o)⟩
theorem Ai.start (w:World)(l:List UInt8):Ai w ((w.alloc (.cells #[.int .i64 0,.int .i64 0] 64)).alloc (.cells #[.string ⟨l.toArray⟩,.slice none 0 0,.slice none 0 0] 186)):=
 ⟨ag.alloc aP _,aP,aP,ah6⟩
theorem Ai.set (h:Ai w W)(a b:Value):((W.setCell ⟨w.heap.size,0,none⟩ a).setCell ⟨w.heap.size,1,none⟩ b).cell? ⟨w.heap.size,0,none⟩=some a/\((W.setCell ⟨w.heap.size,0,none⟩ a).setCell ⟨w.heap.size,1,none⟩ b).cell? ⟨w.heap.size,1,none⟩=some b/\Below w.heap.size w ((W.setCell ⟨w.heap.size,0,none⟩ a).setCell ⟨w.heap.size,1,none⟩ b)/\(W.setCell ⟨w.heap.size,0,none⟩ a).cell? ⟨w.heap.size,1,none⟩=some (.int .i64 0):=by
 have z:=setOther W (a:=⟨w.heap.size,1,none⟩) (b:=⟨w.heap.size,0,none⟩) a h.c1 (.inr aP);exact⟨setOther _ _ (World.cell?_setCell_same _ _ _ h.c0) (.inr aP),World.cell?_setCell_same _ _ _ z,(h.below.setCell ae _).setCell ae _,z⟩
theorem Xj (l:List UInt8)(w:World)(L:l.length<=1000000) :
 Calls Tryz.prog 77 #[.string ⟨l.toArray⟩] w fun z A=>Xk A w.heap.size (Doc.read l) z/\Below w.heap.size w A:=by
 have hR:=fJ;have M:=di (lD.start w l);have N:=di (Ai.start w l);have O:Hid (E5 l 0 [] []):=⟨aP,aP,aP,aO⟩;have P:Hid (Doc.read l=Doc.ek l 0 [] []):=rfl;generalize Doc.read l=R at *;go_enter Tryz.func77,Tryz.ntmps77;go_wp2_with fail
 go_loopw [5] (fun v wr=>∃(i:Nat) (a:List Doc.Item) (e:List Nat),v=.int .i64 i/\E5 l i a e/\R=Doc.ek l i a e/\lD wr (w.heap.size+1) l a e/\Ai w wr) (fun v _=>l.length-(intOf v).toNat)
 case atStart=>exact⟨0,[],[],rfl,O.o,P.o,M.o,N.o⟩
 case round=>
  obtain⟨i,a,e,rfl,f,B,C,D⟩:=hrel;have t:=di B;have u:=di C;have d:=di D;have Q:=di f;have hii:=f.i;clear B C D
  by_cases S:i<l.length
  ·have T:=di (OM (w.heap.size+1) l i a e wr u.o S L Q.o);clear f;go_wp2_with fail;refine T.o.mono ?_;rintro z w1 p;rcases p with ⟨bn,q,her,rfl,b,g⟩|⟨E,F,G,rfl,hn,x,b,H,g⟩
   ·have h:=d.o.next g;have U:=h.c0;have V:=h.c1;have W:=h.fr;have hen:((q:Int) !=0)=true:=aZ;obtain⟨j,k,c,I⟩:=h.set (.int .i64 q) (.int .i64 i);have m:Hid (R=.error (q,i)):=by show _=_;rw[t.o,b]
    have n:=di c;clear b g h c;go_wp2_with fail;rw[m.o];exact bodyPost_ret (v:=.tuple #[.slice none 0 0,.agg #[.int .i64 q,.int .i64 i]]) ajd rfl ⟨rfl,n.o⟩
   ·have X:=di x;have ahh:=x.i;have r:Hid (R=Doc.ek l (i+E) F G):=by show _=_;rw[t.o,b]
    have Y:=di H;have Z:=di (d.o.next g);clear x b H g;go_wp2_with fail;go_roundw
    case rel=>exact⟨i+E,F,G,bJ,X.o,r.o,Y.o,Z.o⟩
    case measure=>exact akL
  ·have hie:i=l.length:=aO;have b:=t.o;rw[Doc.zT hie]at b;have r:=di b;obtain⟨v,hv,y⟩:=u.o.items;obtain⟨ao,cap,rfl,hc1,hc2⟩:=fM y;obtain⟨v2,hv2,J⟩:=u.o.opens;obtain⟨Hw,cap2,rfl,hd1,hd2⟩:=fM J;have HOWN:=di y;have h12:=f.deep;have pO:=f.few;have U:=d.o.c0;have V:=d.o.c1;have W:=d.o.fr;clear b y J f;generalize e.length=no at *
   by_cases o:no>0\/a.length=0
   ·obtain⟨j,k,c,I⟩:=d.o.set (.int .i64 2) (.int .i64 l.length);have m:Hid (R=.error (2,l.length)):=by show _=_;rw[r.o,if_pos o]
    have n:=di c;clear c
    have s:0<no\/(no=0/\((a.length:Int)==0)=true):=by
     by_cases bg:0<no
     ·exact .inl bg
     ·exact .inr ⟨aO,by rcases o with K|K;omega;rw[K];rfl⟩
    clear o;rcases s with s|⟨rfl,hcs2⟩
    all_goals
     go_wp2_with fail;rw[m.o];exact bodyPost_ret (v:=.tuple #[.slice none 0 0,.agg #[.int .i64 2,.int .i64 l.length]]) ajd rfl ⟨rfl,n.o⟩
   ·obtain⟨j,k,c,I⟩:=d.o.set (.int .i64 0) (.int .i64 0);have m:Hid (R=.ok a):=by show _=_;rw[r.o,if_neg o]
    have n:=di c;have s:no=0:=aO;have hcs2:((a.length:Int)==0)=false:=aj aO;clear c o;subst s;go_wp2_with fail;rw[m.o];refine bodyPost_ret (v:=.tuple #[.slice ao a.length cap,.agg #[.int .i64 0,.int .i64 0]]) ajd rfl ⟨⟨_,rfl,?_,aO⟩,n.o⟩;have ho:=ownsRow_setCell_below (a:=⟨w.heap.size,1,none⟩) (ownsRow_setCell_below (a:=⟨w.heap.size,0,none⟩) HOWN.o aW (.int .i64 0)) aW (.int .i64 0);exact fA.imp (qo.dW ho) fun bq i _ p=>⟨by have:=p.1;omega,p.2⟩
end Go.Proofs.YtbichedkajfmiaaGreatDoor
