import Derived.Test.YtbichedkajfmiaaGreatDoorGAdd1
import Derived.Test.YtbichedkajfmiaaGreatDoorGRV0
import Derived.Test.YtbichedkajfmiaaGreatDoorGRef22
import Derived.Test.YtbichedkajfmiaaGreatDoorC
set_option maxRecDepth 100000
set_option maxHeartbeats 16000000
namespace Go.Proofs.YtbichedkajfmiaaGreatDoor
open Go.RowKit
variable {W u w:World}{X:dX}{a:Option Addr}{l:List Nat}{n:Nat}{v:Value}{z:Int}
theorem Jm {a:List (List UInt8)}(h:w.ownsRow n 9 1 v a.length (a.map dO)):kD w v a:=by
 have e:a.map dO=(a.map (fun x=>[dO x])).flatten:=by
  clear h
  induction a with
  | nil=>rfl
  | cons x a b=>simp[b]
 rw[e]at h;refine fA.imp' (Row.dW h aP aP).sl aP fun g i hi c d=>?_;have:=c ahT 0 aO (dO a[i]) aP;rw[show i*1+0=i by omega]at this;exact this
def sI (ts:List dX)(k:Nat)(e:Ending):Prop:=∃z:Int,e=.returned (.string ⟨(dn.dec z).toArray⟩)/\(dn.dec z).length<=1000000+20*(k+1)/\((∃t,ts[k]?=some t/\t.op=14)->(dn.dec z).length<=8)/\(jw ts k->(dn.dec z).length<=10)
theorem sI.plain {b:List dX}(c:b[n]?=some X)(f:X.op≠14)(g:X.op≠15)(d:(dn.dec z).length<=1000000+20*(n+1)):sI b n (.returned (.string ⟨(dn.dec z).toArray⟩)):=by
 obtain⟨i,e⟩:=List.getElem?_eq_some_iff.1 c;refine⟨z,rfl,d,fun⟨j,a,k⟩=>?_,fun⟨_,h⟩=>?_⟩
 ·rw[c]at a;injection a with a;subst a;exact aO
 ·rw[e]at h;rcases h with h|⟨h,_⟩<;>omega
structure BG (ts:List dX)(k:Nat)(args:List Nat)(zs:List Int):Prop where
 len:∀z∈zs,(dn.dec z).length<=1000000+20*k
 num:∀(i a:Nat) (z:Int),args[i]?=some a->zs[i]?=some z->((∃t,ts[a]?=some t/\t.op=14)->(dn.dec z).length<=8)/\(jw ts a->(dn.dec z).length<=10)
theorem BG.snoc {d:List dX}{k:Nat}{zs:List Int}{a:Nat}(h:BG d k l zs)(e:l[zs.length]?=some a)(n:a<k)(o:(dn.dec z).length<=1000000+20*(a+1))(f:(∃t,d[a]?=some t/\t.op=14)->(dn.dec z).length<=8)(g:jw d a->(dn.dec z).length<=10):BG d k l (zs++[z]):=by
 refine⟨fun y b=>?_,fun i j y c b=>?_⟩
 ·rcases List.mem_append.1 b with b|b
  ·exact h.len y b
  ·rw[List.mem_singleton.1 b];exact aO
 ·by_cases hi:i<zs.length
  ·rw[List.getElem?_append_left hi]at b;exact h.num i j y c b
  ·rw[List.getElem?_append_right aO]at b
   have m:i=zs.length:=by
    have:=(List.getElem?_eq_some_iff.1 b).1;simp at this;exact aO
   subst m;rw[e]at c;injection c with c;subst c;simp at b;subst b;exact⟨f,g⟩
structure BH (w wx:World)(t:dX)(aA:Option Addr)(cA:Nat):Prop where
 dG:Below w.heap.size w wx
 box:jc wx w.heap.size t (.slice aA t.args.length cA)
 lt:w.heap.size<wx.heap.size
theorem BH.below (h:BH w W X a n)(b:Below W.heap.size W u):BH w u X a n:=
 ⟨h.dG.trans (b.mono h.dG.size),h.box.below b h.lt,Nat.lt_of_lt_of_le h.lt b.size⟩
theorem BH.grown (h:BH w W X a n){row:Option Nat}(b:W.grownBy u row)(e:∀c,row=some c->w.heap.size+1<=c):BH w u X a n:=by
 have d:Below (w.heap.size+1) W u:=af.grown b h.lt e;exact⟨h.dG.trans (d.mono aO),h.box.below d aO,Nat.lt_of_lt_of_le h.lt b.size⟩
theorem BH.start (w:World)(t:dX)(a:Option Addr)(b:Nat):BH w (w.alloc (.cells #[.string ⟨t.text.toArray⟩,.int .i64 t.op,.int .i64 t.sort,.int .i64 t.sym,.slice a t.args.length b] 176)) t a b:=
 ⟨ag,⟨aP,aP,aP,aP,aP⟩,aP⟩
theorem TK (sb:Nat)(S:Doc.dB)(K:Option Addr)(bg L:Nat)(M:List fU)(w0:World)(aS:Option Addr)(cS:Nat)(aT:Option Addr)(cT:Nat)(aH:Option Addr)(cH:Nat)(aL:Option Addr)(cL:Nat)
 (T:Yy w0 sb S aS cS aT cT aH cH aL cL) (Z:Doc.fQ S) (hL:fZ w0 K bg M) (hn:M.length=L) (zN:∀x∈M,Gf S.syms x) (hval:∀x∈M,x.val.length<=1000000) :
 ∀(k:Nat),k<S.terms.length->∀w,Below w0.heap.size w0 w->
 Calls Tryz.prog 106 #[.pointer (some ⟨sb,0,none⟩),.slice K L bg,.int .i64 k] w fun n C=>sI S.terms k n/\Below w.heap.size w C:=by
 intro k
 induction k using Nat.strongRecOn with
 | _ k ih=>
 intro hk w D;have hR:=fJ;obtain⟨i0,hi,hz0,hz1,hz2⟩:=info_parts Tryz.oC;have h80:=Z.book.many;have v:=zl Z.book k hk;have IH:Hid (∀j,j<k->∀W,Below w.heap.size w W->Calls Tryz.prog 106 #[.pointer (some ⟨sb,0,none⟩),.slice K L bg,.int .i64 j] W fun n C=>sI S.terms j n/\Below W.heap.size W C):=fun j hj W hW=>ih j hj aO W (D.trans (hW.mono D.size));obtain⟨t,ht⟩:∃t,S.terms[k]?=some t:=⟨_,aD hk⟩;have ht':=(List.getElem?_eq_some_iff.1 ht).2;rw[ht']at v;obtain⟨g,rfl,hgl,aA,cA,k1,k2,hcc⟩:=T.term k t ht;obtain⟨q0,q1,q2,q3,q4,_⟩:=hcc w D;have Zi:=di (fun W (h:Below w.heap.size w W)=>eY (hcc W (D.trans (h.mono D.size))).2.2.2.2.2);have d1:=T.c1 w D;obtain⟨m1,m2⟩:=T.l1;have HT:=di ht;have Zg:=di v.args;have pO:=v.few;have ad8:=v.op.1;have ad7:=v.op.2;have lF:=di v.one;have uB:=di v.two;have Lt:=di v.three;have Gh:=di v.num;have Fu:Hid (t.op=18->∃j bA,t.args=[j,bA]/\jw S.terms j):=fun h=>by have:=GU Z.book k hk;rw[ht']at this;exact this h
 have QU:Hid (t.op=15->jw S.terms k->∃j,t.args=[j]/\∃bq,S.terms[j]?=some bq/\bq.op=14):=fun y ⟨_,h⟩=>by
  rw[ht']at h;rcases h with h|⟨_,j,hj,p,N⟩
  ·exact aO
  ·exact⟨j,p,_,aD hj,N⟩
 have QQ:Hid (t.op≠1->t.op≠2->t.op≠13->t.op≠14->1<=t.args.length/\(t.op≠3->t.op≠15->2<=t.args.length)):=fun y p N h4=>by
  have hm:=(Z.book.terms k hk).made;rw[ht']at hm;cases hm with
  | bool h _ _ _=>omega
  | num h _ _ _ _=>omega
  | app h _ _ _=>omega
  | form bn hf hop _ ha _ _=>
   obtain⟨_,_,_,_,_,_,f7,f8⟩:=xz bn hf;have hl:=Doc.jr ha;refine⟨aO,fun h5 h6=>?_⟩;have:=f8 aO aO;exact aO
 have Gm:Hid (t.op=13->∀x∈M,x.sym=(t.sym:Nat)->x.other=false->x.args.length=t.args.length):=fun h13 x q hs ho=>by
  have hm:=(Z.book.terms k hk).made;rw[ht']at hm;cases hm with
  | bool h _ _ _=>omega
  | num h _ _ _ _=>omega
  | form bn hf hop _ _ _ _=>have:=Doc.jS bn hf;omega
  | app _ hy ha _=>
   have y:=(zN x q).args ho;rw[hs,Int.toNat_natCast]at y;rw[y,<-ha,List.length_map]
 have Y9:=di (fun W (h:Below w.heap.size w W)=>hL.below (D.trans (h.mono D.size)))
 have HFV:Hid (∀O:List UInt8,(O=[48]\/∃x∈M,O=x.val)->∃z:Int,O=dn.dec z/\(dn.dec z).length<=1000000):=fun O h=>by
  rcases h with rfl|⟨x,q,rfl⟩
  ·exact⟨0,by rw[dn.gH],by rw[dn.gH];simp⟩
  ·obtain⟨z,E⟩:=dn.qi (zN x q).val;exact⟨z,E,by rw[<-E];exact hval x q⟩
 have aes:=hL.le;have ahq:=hL.max;rw[hn]at aes;have HN:=di hn;obtain⟨NT,xy⟩:=aJ S.terms.length;rw[xy]at d1 m1 hk h80;have HST:=di (BH.start w t aA cA);obtain⟨O,a,so,sy,U⟩:=t;simp only at q0 q1 q2 q3 q4 k1 Zi Zg pO ad8 ad7 lF uB Lt Gh Fu QU QQ Gm HST;obtain⟨r,tL⟩:=aJ U.length;have Dj:=di tL;rw[tL]at q4 k1 pO lF uB Lt QQ Gm HST;clear ih T Z hL hn zN hval D v ht ht' hcc xy tL;go_enter Tryz.func106,Tryz.ntmps106;go_wp2_with fail;clear q0 q1 q2 q3 q4 d1
 go_loopw [8,9] (fun bB i wr=>∃(j:Nat) (d:List Int),i=.int .i64 j/\j<=r/\d.length=j/\wr.ownsRow (w.heap.size+1) 9 1 bB (oO d).length ((oO d).map dO)/\BG S.terms k U d/\BH w wr ⟨O,a,so,sy,U⟩ aA cA) (fun _ i _=>r-(intOf i).toNat)
 case atStart=>exact⟨0,[],rfl,aO,rfl,World.ownsRow_nil _ _ _ _,⟨aP,aP⟩,by first|exact HST.o|(have:=HST.o;rw[<-Dj.o]at this;exact this)|(rw[Dj.o]at *;exact HST.o)⟩
 case round=>
  obtain⟨j,d,rfl,hj,hzl,hown,hok,hst⟩:=hrel;have BP:=di hzl;have HO:=di hown;have rz:=di hok;have HS:=di hst;obtain⟨b0,b1,b2,b3,b4⟩:=hst.box;simp only at b0 b1 b2 b3 b4;rw[Dj.o]at b4;have hlt:=hst.lt;clear hzl hown hok hst
  by_cases hjl:j<r
  ·obtain⟨x,q⟩:∃x,U[j]?=some x:=⟨_,aD (by rw[Dj.o];exact hjl)⟩;have hxk:=Zg.o x (List.mem_of_getElem? q);obtain⟨ga,rfl,F⟩:=Zi.o wr HS.o.dG j x q;have o:=di (IH.o x hxk wr HS.o.dG);have HX:=di q;clear q;go_wp2_with fail;refine o.o.mono ?_;rintro n w2 ⟨⟨z,rfl,hz1',hz2',aaN⟩,m⟩;have HS2:=di (HS.o.below m);have Oe:=di (ownsRow_below HO.o m);have Gg:Hid (BG S.terms k U (d++[z])):=rz.o.snoc (by rw[BP.o];exact HX.o) hxk hz1' hz2' aaN;have hs2:=m.size;have hdl:(oO d).length=j:=by rw[oO,List.length_map];exact BP.o
   have Uz:=di hdl;have HDS:Hid (oO (d++[z])=oO d++[dn.dec z]):=by show _=_;simp[oO]
   clear m hz2' aaN b0 b1 b2 b3 b4 F hdl;have ahr:(oO d).length<=4:=by rw[Uz.o];omega
   generalize oO d=ds at *;generalize dn.dec z=dz at *;go_wp2_with (at_builtin;refine dD rfl (.tmp 36) (.tmp 38) 45 rfl (w.heap.size+1) 9 i0 (.string ⟨#[]⟩) 1 16 Tryz.underlying45 hi hz0 hz1 hz2 rfl aR _ ds.length (ds.map dO) rfl (by exact Oe.o.alloc _) ⟨w2.heap.size,0,none⟩ 1 [dO dz] rfl rfl bM bX aX aO aQ ?_;intro gn eZ w3 hown' hgrow _ Ap);have Uj:Hid (w3.ownsRow (w.heap.size+1) 9 1 (.slice (some ⟨gn,0,none⟩) (ds.length+1) eZ) (ds++[dz]).length ((ds++[dz]).map dO)):=by rw[List.length_append,List.map_append];exact hown'
   have nV:Hid (BH w w3 ⟨O,a,so,sy,U⟩ (some ⟨ga,0,none⟩) cA):=(HS2.o.below ag).grown hgrow (fun x q=>(Oe.o.lt x q).1);clear hown' hgrow Ap;go_wp2_with fail;go_roundw
   case rel=>exact⟨j+1,d++[z],bJ,aO,by rw[List.length_append,BP.o];rfl,by rw[HDS.o];exact Uj.o,Gg.o,nV.o⟩
   case measure=>exact akL
  ·have hzn:d.length=r:=by rw[BP.o];omega
   have HZN:=di hzn;have wI:=di (Jm HO.o);obtain⟨av,cv,T,hv1,hv2⟩:=wI.o.form;rw[show(oO d).length=r by rw[oO,List.length_map];exact hzn]at T hv1;subst T;have f:=di HS.o.dG;have Ya:∀(i K:Nat) (z:Int),U[i]?=some K->d[i]?=some z->((∃t,S.terms[K]?=some t/\t.op=14)->(dn.dec z).length<=8)/\(jw S.terms K->(dn.dec z).length<=10):=rz.o.num;have YT:=di Ya;have G:=di rz.o.len
   have H:Hid (∀i,i<r->∃z g,d[i]?=some z/\z∈d/\av=some ⟨g,0,none⟩/\wr.cell? ⟨g,i,none⟩=some (.string ⟨(dn.dec z).toArray⟩)):=fun i hi=>by
    obtain⟨z,E⟩:∃z,d[i]?=some z:=⟨_,aD (by rw[HZN.o];exact hi)⟩;obtain⟨g,P,e2⟩:=wI.o.get i _ (KX E);exact⟨z,g,E,List.mem_of_getElem? E,P,e2⟩
   have A:Hid (∀z:Int,a≠14->a≠15->(dn.dec z).length<=1000000+20*(k+1)->sI S.terms k (.returned (.string ⟨(dn.dec z).toArray⟩))):=fun z y p N=>sI.plain HT.o y p N;clear Ya hzn HO BP
   by_cases c1:a=1
   ·have e:Hid (sI S.terms k (.returned (.string ⟨#[49]⟩))):=by have:=A.o 1 aO aO ajR;rw[dn.kS]at this;exact this
    subst c1;go_wp2_with fail;go_ret;exact⟨e.o,f.o⟩
   have t1:((a:Int)==1)=false:=aj aO
   by_cases c2:a=2
   ·have e:Hid (sI S.terms k (.returned (.string ⟨#[48]⟩))):=by have:=A.o 0 aO aO ajS;rw[dn.gH]at this;exact this
    subst c2;go_wp2_with fail;go_ret;exact⟨e.o,f.o⟩
   have t2:((a:Int)==2)=false:=aj aO
   by_cases V:a=14
   ·have e:Hid (sI S.terms k (.returned (.string ⟨O.toArray⟩))):=by
     obtain⟨z,y,p⟩:=Gh.o V;rw[y]at p ⊢;exact⟨z,rfl,aO,fun _=>p,fun _=>aO⟩
    subst V;go_wp2_with fail;go_ret;exact⟨e.o,f.o⟩
   have t14:((a:Int)==14)=false:=aj aO
   by_cases c13:a=13
   ·have o:=di (Rf K av bg cv L r sy M (oO d) wr (Y9.o wr f.o) HN.o wI.o (by rw[oO,List.length_map];exact HZN.o) ⟨hv1,hv2⟩ (Gm.o c13))
    have e:Hid (∀n,Zl M n->sI S.terms k n):=fun n he=>by
     obtain⟨tt,rfl,h⟩:=he;obtain⟨z,rfl,E⟩:=HFV.o tt h;exact A.o z aO aO aO
    subst c13;go_wp2_with fail;refine o.o.mono ?_;rintro n w2 ⟨⟨tt,rfl,hf⟩,m⟩;have HR2:=di (e.o _ ⟨tt,rfl,hf⟩);have s:=di (f.o.trans (m.mono f.o.size));clear hf m;go_wp2_with fail;go_ret;exact⟨HR2.o,s.o⟩
   have t13:((a:Int)==13)=false:=aj aO
   by_cases c12:a=12
   ·have N:=Lt.o c12;subst N;obtain⟨b,g,_,B,rfl,u⟩:=H.o 0 aO;obtain⟨l,g',_,Q,c,F⟩:=H.o 1 aO;injection c with c
    injection c with c;subst c;obtain⟨x2,g',_,m2',c,r2⟩:=H.o 2 aO;injection c with c;injection c with c;subst c;have e:=di (A.o l aO aO (by have:=G.o l Q;omega));have HR2:=di (A.o x2 aO aO (by have:=G.o x2 m2';omega));clear B Q m2';generalize dn.dec b=R at *;generalize dn.dec l=y1 at *;generalize dn.dec x2=y2 at *;subst c12;cases e0:(R==[49])
    ·go_wp2_with fail;go_ret;exact⟨HR2.o,f.o⟩
    ·go_wp2_with fail;go_ret;exact⟨e.o,f.o⟩
   have t12:((a:Int)==12)=false:=aj aO
   by_cases X:a=15
   ·have y:=lF.o aO;subst y;obtain⟨b,g,Y,B,rfl,u⟩:=H.o 0 aO;have l0:=G.o b B;have hnl:=C9 b
    have e:Hid (sI S.terms k (.returned (.string ⟨(dn.dec (-b)).toArray⟩))):=by
     refine⟨-b,rfl,aO,fun⟨t',P,e2⟩=>?_,fun hnt=>?_⟩
     ·rw[HT.o]at P;injection P with P;subst P;simp only at e2;exact aO
     ·obtain⟨j,P,e2⟩:=QU.o X hnt;have:=(YT.o 0 j b (by rw[P];rfl) Y).1 e2;exact aO
    have o:=di (NZ b wr aO);clear Y B l0 hnl;generalize dn.dec (-b)=y1 at *;generalize dn.dec b=R at *;subst X;go_wp2_with fail;refine o.o.mono ?_;rintro n w2 ⟨rfl,m⟩;have s:=di (f.o.trans (m.mono f.o.size));clear m;go_wp2_with fail;go_ret;exact⟨e.o,s.o⟩
   have t15:((a:Int)==15)=false:=aj aO
   by_cases c17:a=17
   ·have p:=uB.o aO;subst p;obtain⟨b,g,Y,B,rfl,u⟩:=H.o 0 aO;obtain⟨l,g',hx1,Q,c,F⟩:=H.o 1 aO;injection c with c
    injection c with c;subst c;have l0:=G.o b B;have l1:=G.o l Q;have hsl:=xX b l;have e:=di (A.o (b-l) aO aO aO);have o:=di (fun W=>Gd b l W aO aO);clear Y hx1 B Q l0 l1 hsl;generalize dn.dec (b-l)=y2 at *;generalize dn.dec b=R at *;generalize dn.dec l=y1 at *;subst c17;go_wp2_with fail;go_region_held3 (fun C=>C.cell? ⟨g,0,none⟩=some (.string ⟨R.toArray⟩)/\C.cell? ⟨g,1,none⟩=some (.string ⟨y1.toArray⟩)) (go_keep) (first|(go_at_call 155;refine(o.o _).mono ?_;rintro n w4 ⟨rfl,I⟩;have s0:=(Below.cell I (p:=⟨g,0,none⟩) (ai u)).trans u;have s1:=(Below.cell I (p:=⟨g,1,none⟩) (ai F)).trans F));exact amk
   have t17:((a:Int)==17)=false:=aj aO
   by_cases c18:a=18
   ·have p:=uB.o aO;subst p;obtain⟨b,g,Y,B,rfl,u⟩:=H.o 0 aO;obtain⟨l,g',hx1,Q,c,F⟩:=H.o 1 aO;injection c with c
    injection c with c;subst c;obtain⟨j0,m0',hja,hjn⟩:=Fu.o c18;have l0':=(YT.o 0 j0 b (by rw[hja];rfl) Y).2 hjn;have l0:=G.o b B;have l1:=G.o l Q;have hsl:=M9 b l;have e:=di (A.o (b*l) aO aO aO);have o:=di (fun W=>N7 b l W aO aO);clear Y hx1 B Q l0 l1 hsl;generalize dn.dec (b*l)=y2 at *;generalize dn.dec b=R at *;generalize dn.dec l=y1 at *;subst c18;go_wp2_with fail;go_region_held3 (fun C=>C.cell? ⟨g,0,none⟩=some (.string ⟨R.toArray⟩)/\C.cell? ⟨g,1,none⟩=some (.string ⟨y1.toArray⟩)) (go_keep) (first|(go_at_call 156;refine(o.o _).mono ?_;rintro n w4 ⟨rfl,I⟩;have s0:=(Below.cell I (p:=⟨g,0,none⟩) (ai u)).trans u;have s1:=(Below.cell I (p:=⟨g,1,none⟩) (ai F)).trans F));exact amk
   have t18:((a:Int)==18)=false:=aj aO
   by_cases c16:a=16
   ·have HD0:Hid ([48]=dn.dec 0):=by show _=_;rw[dn.gH]
    have acJ:Hid (a≠14/\a≠15):=⟨V,X⟩;have t16:((a:Int)==16)=true:=bz;clear c16 c1 c2 c12 c13 V X c17 c18;go_wp2_with fail
    go_loopw [11,12] (fun bC i wx=>∃(j:Nat) (z:Int),i=.int .i64 j/\j<=r/\bC=.string ⟨(dn.dec z).toArray⟩/\(dn.dec z).length<=1000000+20*k+2*j/\Below wr.heap.size wr wx) (fun _ i _=>r-(intOf i).toNat)
    case atStart=>exact⟨0,0,rfl,aO,by rw[<-HD0.o],by rw[<-HD0.o];simp;omega,af⟩
    case round=>
     obtain⟨j,z,rfl,hj,rfl,hzl,hbj⟩:=hrel;rename World=>wj;have qx:=di hbj;have mo:=di (f.o.trans (hbj.mono f.o.size))
     by_cases hjl:j<r
     ·obtain⟨x,g,_,hxm,rfl,u⟩:=H.o j hjl;have F:=(hbj.cell (p:=⟨g,j,none⟩) (ai u)).trans u;have lx:=G.o x hxm;have hal:=sP z x;have o:=di (sM z x wj aO aO);have HL2:Hid ((dn.dec (z+x)).length<=1000000+20*k+2*(j+1)):=by show _<=_;omega
      clear hbj u hxm lx hal;generalize dn.dec z=R at *;generalize dn.dec x=y1 at *;obtain⟨y2,hy2⟩:=aJ (dn.dec (z+x));rw[hy2]at o;have YE:=di hy2;clear hy2;go_wp2_with fail;refine o.o.mono ?_;rintro n w2 ⟨rfl,m⟩;have s:=di (qx.o.trans (m.mono qx.o.size));clear m;go_wp2_with fail;go_roundw
      case rel=>exact⟨j+1,z+x,bJ,aO,by rw[YE.o],HL2.o,s.o⟩
      case measure=>exact akL
     ·have e:=di (A.o z acJ.o.1 acJ.o.2 aO);clear hbj;generalize dn.dec z=R at *;go_wp2_with fail;go_ret;exact⟨e.o,mo.o⟩
   have t16:((a:Int)==16)=false:=aj aO;have hr:=QQ.o c1 c2 c13 V;have o:=di (Rj a r cv av d wr wI.o HZN.o ⟨hv1,hv2⟩ hr.1 (fun N=>hr.2 N X) (fun z E=>by have:=G.o z E;omega))
   have e:Hid (∀J:Bool,sI S.terms k (.returned (dO (if J=true then [49] else [48])))):=fun J=>by
    cases J
    ·have:=A.o 0 V X ajS;rw[dn.gH]at this;exact this
    ·have:=A.o 1 V X ajR;rw[dn.kS]at this;exact this
   have agk:=di (fun J W=>aac J W);go_wp2_with fail;refine o.o.mono ?_;rintro n w2 ⟨⟨J,rfl⟩,m⟩;have s:=di (f.o.trans (m.mono f.o.size));have HR2:=di (e.o J);have jB:=di (agk.o J w2);clear m;obtain⟨tb,htb⟩:∃tb:List UInt8,(if J=true then [49] else [48])=tb:=⟨_,rfl⟩;rw[htb]at HR2 jB;clear htb;go_wp2_with fail;refine jB.o.mono ?_;rintro n w3 ⟨rfl,hw3⟩;subst hw3;simp only[dO];go_wp2_with fail;go_ret;exact⟨HR2.o,s.o⟩
def TV (e:Ending):Prop:=∃(b:Bool) (n:Int),e=.returned (.tuple #[.bool b,.int .i64 n])
theorem QA (a D:Nat)(own:Own)(S:Doc.dB)(d:Option Addr)(e n:Nat)(L:List fU)(w:World)(m:dE w own D a S)(f:Doc.fQ S)(g:fZ w d e L)(k:L.length=n)
 (o:∀x∈L,x.val.length<=1000000/\∀y∈x.args,y.length<=1000000) (E:∀x∈L,-9223372036854775808<=x.sym/\x.sym<=9223372036854775807) :
 Calls Tryz.prog 46 #[.pointer (some ⟨a,0,none⟩),.slice d n e] w fun i b=>TV i/\Below w.heap.size w b:=by
 have hR:=fJ;obtain⟨P,Q,R,T,U,F,V,X,j⟩:=m.view;have Y:=di j;have Z:=di (QE a D own S d e n L w m f g k o E)
 have Xr:Hid ((∀x∈L,Gf S.syms x)->∀p,p<S.terms.length->∀W,Below w.heap.size w W->Calls Tryz.prog 106 #[.pointer (some ⟨a,0,none⟩),.slice d n e,.int .i64 p] W fun i b=>sI S.terms p i/\Below W.heap.size W b):=
  fun hl=>TK a S d e n L w P Q R T U F V X j f g k hl (fun x hx=>(o x hx).1)
 have G:=di j.c2;obtain⟨m1,m2⟩:=j.l2;have Oh:=di f.held;have hh12:=f.pE;have hc1:=g.le;have hc2:=g.max;rw[k]at hc1;obtain⟨l,r⟩:=aJ S.held.length;have Ul:=di r;rw[r]at m1 hh12 G;clear j m f g k o E r;go_enter Tryz.func46,Tryz.ntmps46;go_wp2_with fail;refine Z.o.mono ?_;rintro i w1 ⟨⟨bg,rfl,H⟩,I⟩;have J:=di I;have K:=di H;clear H I;cases bg
 ·go_wp2_with fail;go_ret2;exact⟨⟨_,_,rfl⟩,J.o⟩
 ·have HVA:=di (Xr.o (K.o rfl));clear K;go_wp2_with fail
  go_loopw [7] (fun s wr=>∃q:Nat,s=.int .i64 q/\q<=l/\Below w.heap.size w wr) (fun s _=>l-(intOf s).toNat)
  case atStart=>exact⟨0,rfl,aO,J.o⟩
  case round=>
   obtain⟨q,rfl,hq,t⟩:=hrel;have c:=di t;have u:=G.o wr t;clear t
   by_cases hlt:q<l
   ·obtain⟨h,v⟩:∃h,S.held[q]?=some h:=⟨_,aD (by rw[Ul.o];exact hlt)⟩;obtain⟨A,rfl,hgh,M⟩:=Y.o.held q h v;have B:=M wr c.o;have HC:=di (fun W hW=>HVA.o h (Oh.o h (List.mem_of_getElem? v)).1 W hW);clear v M;go_upto_region 7 with fail
    go_cut [8] (fun y wx=>(∃z:Int,y=.string ⟨(dn.dec z).toArray⟩)/\Below w.heap.size w wx)
    case first=>
     go_region_held3 (fun b=>b.cell? ⟨a,2,none⟩=some (.slice (some ⟨A,0,none⟩) l F)/\b.cell? ⟨A,q,none⟩=some (.int .i64 (h:Nat))) (go_keep) (first|(go_at_call 106;refine(HC.o _ (by first|exact c.o|exact c.o.drew)).mono ?_;rintro i w4 ⟨⟨z,rfl,hz1,hz2,hz3⟩,C⟩;clear hz1 hz2 hz3;have s0:=(Below.cell C (p:=⟨a,2,none⟩) (ai u)).trans u;have s1:=(Below.cell C (p:=⟨A,q,none⟩) (ai B)).trans B));go_wp2_with fail;go_meet
     case rel=>exact⟨⟨z,rfl⟩,c.o.trans ((af.drew.trans C).mono c.o.size)⟩
    case rest=>
     obtain⟨⟨z,rfl⟩,N⟩:=hcut;have O:=di N;clear N u B;generalize dn.dec z=tz at *;cases e1:(tz==[49])
     ·go_wp2_with fail;go_ret2;exact⟨⟨_,_,rfl⟩,O.o⟩
     ·go_wp2_with fail;go_roundw
      case rel=>exact⟨q+1,bJ,aO,O.o⟩
      case measure=>exact akL
   ·go_wp2_with fail;go_ret2;exact⟨⟨_,_,rfl⟩,c.o⟩
end Go.Proofs.YtbichedkajfmiaaGreatDoor
