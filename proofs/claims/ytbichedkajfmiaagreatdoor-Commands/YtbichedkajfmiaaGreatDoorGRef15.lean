import Derived.Test.YtbichedkajfmiaaGreatDoorGDoc8
import Derived.Test.YtbichedkajfmiaaGreatDoorGRef3
import Derived.Test.YtbichedkajfmiaaGreatDoorGRef9
import Derived.Test.YtbichedkajfmiaaGreatDoorC
set_option maxRecDepth 100000
set_option maxHeartbeats 16000000
namespace Doc
variable {n:Nat}{r:List Tr}
theorem kQ (h:oks r):∀k∈r,k.ok:=by
 induction r with
 | nil=>intro k a;cases a
 | cons c r b=>
  simp only[oks]at h;intro k a;rcases List.mem_cons.1 a with rfl|a
  ·exact h.1
  ·exact b h.2 k a
theorem jl {ks:List Tr}:∀k∈ks,k.width+1<=eu ks:=by
 induction ks with
 | nil=>intro k a;cases a
 | cons c ks b=>
  intro k a;simp only[eu];rcases List.mem_cons.1 a with rfl|a
  ·exact aO
  ·have:=b k a;exact aO
theorem uw {one:Tr->List Term->Except (Nat × Nat) (List Term × Nat)}(h:n<r.length)(a:List Term)(b:List Nat) :
 gI one (r.drop n) a b=match one r[n] a with|.error x=>.error x|.ok c=>gI one (r.drop (n+1)) c.1 (b++[c.2]):=by
 rw[List.drop_eq_getElem_cons h];rfl
theorem Jg (b:List Sym)(d p:Nat){a:List Tr}(c:List Term)(h:a.length=0):term b (d+1) (.list p a) c=.error (4,p):=by
 have:a=[]:=List.eq_nil_of_length_eq_zero h;subst this;rfl
theorem Gv (b:List Sym)(d p:Nat){a:List Tr}(c:List Term){q:Nat}{e:List Tr}(h:a[0]?=some (.list q e)):term b (d+1) (.list p a) c=.error (4,q):=by
 cases a with
 | nil=>cases h
 | cons f a=>simp at h;subst h;rfl
theorem Gu (a:List Sym)(d p:Nat){b:List Tr}(c:List Term){q:Nat}{x:Str}(h:b[0]?=some (.word q x)):term a (d+1) (.list p b) c =
 if jY x=false/\eX a x=none then .error (5,q) else match gI (term a d) (b.drop 1) c [] with|.error x=>.error x|.ok r=>ig p (if jY x=true then l8 r.1 x r.2 else applied a r.1 ((eX a x).getD 0) r.2):=by
 cases b with
 | nil=>cases h
 | cons e b=>simp at h;subst h;rfl
end Doc
namespace Go.Proofs.YtbichedkajfmiaaGreatDoor
open Go.RowKit
variable {A:List Doc.Tr}{D:Tc}{O o:Own}{W u w:World}{Y:Doc.Tr}{b:List Value}{e:TypeId}{h:Ending}{i k m n:Nat}{v:Value}
theorem Tryz.mI:(Tryz.prog.info? 3).map (fun i=>(i.zero,i.size,i.bytes))=some (some (.int .i64 0),1,8):=bL
theorem fM (h:w.ownsRow n e k v m b):∃d a,v=.slice d m a/\m<=a/\a<=2 ^ 63-1:=by
 rcases h.2 with ⟨c,f⟩|⟨j,a,l,c,_,_,g,i,_⟩
 ·exact⟨none,0,by rw[c,f],aO,aO⟩
 ·exact⟨_,a,c,g,by unfold maxLen at i;omega⟩
theorem gU.err {own:Own}{S:Doc.dB}(a:Fr own o n w W)(b:dE W o n m S)(c:k≠0):gU w W own n m S (.error (k,i)) (.returned (.tuple #[.int .i64 0,.int .i64 k,.int .i64 i])):=
 ⟨o,a,rfl,c,[],ajh⟩
theorem TM (h k d:Nat)(own:Own)(S:Doc.dB)(p:Nat)(a:List Doc.Tr)(ao:Option Addr)(A:Nat)(w:World)(hS:dE w own k h S)(hfr:dH own w)(hk:k≠0)(hw:Doc.gP S.syms S.terms)(ht:ik w (fun l=>own l=0) (d+1) ⟨[],true,ao,a.length,A,p⟩ (.list p a))(hok:Doc.oks a)(hwd:Doc.eu a<=800)
 (ih:∀(K:Doc.Tr) (B:Tc) (own:Own) (S:Doc.dB) (w:World),dE w own k h S->dH own w->Doc.gP S.syms S.terms->ik w (fun l=>own l=0) d B K->K.ok->K.width<=800->
  Calls Tryz.prog 187 #[.pointer (some ⟨h,0,none⟩),.agg #[.string ⟨B.x.toArray⟩,.bool B.bb,.slice B.ao B.m B.cap,.int .i64 B.p]] w fun g P=>gU w P own k h S (Doc.term S.syms d K S.terms) g) :
 Calls Tryz.prog 187 #[.pointer (some ⟨h,0,none⟩),.agg #[.string ⟨#[]⟩,.bool true,.slice ao a.length A,.int .i64 p]] w fun g P=>gU w P own k h S (Doc.term S.syms (d+1) (.list p a) S.terms) g:=by
 have hR:=fJ;obtain⟨i0,hi,hz0,hz1,hz2⟩:=info_parts Tryz.mI;obtain⟨_,_,_,Q⟩:=id ht;obtain⟨ao',cap',hsv,hc1,hc2,hel⟩:=Q;injection hsv with e1 e2 e3
 simp only at e1 e3;subst e1 e3;unfold maxLen at hc2;have hb0:Below w.heap.size w (w.alloc (.cells #[.string ⟨#[]⟩,.bool true,.slice ao a.length A,.int .i64 p] 138)):=ag;have R:=di hb0;have lS:=di hfr;have HS:=di hS
 have hkl:a.length<=1000:=by
  have:∀a:List Doc.Tr,a.length<=Doc.eu a:=by
   intro a
   induction a with
   | nil=>simp
   | cons L a ih=>simp only[Doc.eu,List.length_cons];omega
  have:=this a;exact aO
 have Ma:=di hel;clear hel
 by_cases T:a.length=0
 ·have o0:((a.length:Int)==0)=true:=by rw[T];rfl
  have M:Hid (Doc.term S.syms (d+1) (.list p a) S.terms=.error (4,p)):=Doc.Jg _ _ _ _ T;clear T;go_enter Tryz.func187,Tryz.ntmps187;go_wp2_with fail;go_quiet (fail);go_wp2_with fail
  go_ret3
  exact amE
 ·have o0:((a.length:Int)==0)=false:=aj aO;have hpos:0<a.length:=aO;obtain⟨l,rfl,hg0,aa8⟩:=Ma.o 0 hpos;obtain⟨C,hkc,D⟩:=aa8 hpos;have Bn:=hkc.block (hb0.block l (ai hkc.x));have k0:=Bn.x;have k1:=Bn.b;have N:=Bn.p;simp only[Nat.zero_mul,Nat.zero_add]at k0 k1 N;have U:a[0]?=some a[0]:=aD hpos;generalize a[0]=t0 at *;clear aa8 Bn;cases t0 with
  | list O qs=>
   have hbb:C.bb=true/\C.p=O:=by
    cases d with
    | zero=>exact D.elim
    | succ d=>exact⟨D.2.1,D.2.2.1⟩
   rw[hbb.1]at k1;rw[hbb.2]at N;have M:Hid (Doc.term S.syms (d+1) (.list p a) S.terms=.error (4,O)):=Doc.Gv _ _ _ _ U;clear D hkc hg0 hb0 T U hbb;go_enter Tryz.func187,Tryz.ntmps187;go_wp2_with fail;go_quiet (fail);go_wp2_with fail
   go_ret3
   exact amE
  | word O x=>
   have hkw:C=⟨x,false,none,0,0,O⟩:=by
    cases d with
    | zero=>exact D.elim
    | succ d=>exact D
   subst hkw;simp only at k0 k1 N
   have hxl:x.length<=1000:=by
    have:=Doc.jl (.word O x) (List.mem_of_getElem? U);simp only[Doc.Tr.width]at this;exact aO
   have M:=di (Doc.Gu S.syms d p S.terms U);have Fg:=di (fun W=>Jc x W)
   have wN:Hid (∀W,Below w.heap.size w W->Calls Tryz.prog 185 #[.pointer (some ⟨h,0,none⟩),.string ⟨x.toArray⟩] W fun g P=>g=.returned (.int .i64 (placeOf (Doc.eX S.syms x)))/\P=W):=
    fun W hb=>DV h S.syms S.terms x W (hS.below hb).book
   have BZ:=di (fun s=>Doc.lK (ss:=S.syms) (w:=x) (s:=s))
   have HLG:Hid (w.heap.size≠l):=by
    have:=ai hkc.x;show w.heap.size≠l;simp only at this;exact aO
   generalize Doc.term S.syms (d+1) (.list p a) S.terms=V at *;generalize Ye:Doc.jY x=io at *;generalize hfs:Doc.eX S.syms x=fs at *;have HIO:=di Ye;clear D hg0 hb0 T U Ye hfs;go_enter Tryz.func187,Tryz.ntmps187;go_wp2_with fail;refine(Fg.o _).mono ?_;rintro g w1 ⟨rfl,X⟩;have hb2:=R.o.trans (X.mono aP);have HB1:=di X;have HB2:=di hb2;have afW:=di (wN.o w1 hb2);have b2:=(X.cell (p:=⟨w.heap.size,2,none⟩) aP).trans (show _=some (.slice (some ⟨l,0,none⟩) a.length A) by simp);have k3':=(X.cell (p:=⟨l,3,none⟩) (ai N)).trans N;clear X hb2 k0 k1 N;go_wp2_with fail;refine afW.o.mono ?_;rintro g q ⟨rfl,rfl⟩
   by_cases hnone:io=false/\fs=none
   ·obtain⟨rfl,rfl⟩:=hnone;have hm1:placeOf none=-1:=rfl;have m:V=.error (5,O):=by rw[M.o,if_pos ⟨rfl,rfl⟩]
    go_wp2_with fail;go_quiet (fail);go_wp2_with fail
    go_ret3
    rw[m];exact(gU.err (Fr.of_below k lS.o HB2.o) (HS.o.below HB2.o) aO).below (below_drewN af _)
   ·have YV:=di hnone;have QK:=M.o;rw[if_neg YV.o]at QK;have wJ:=di (oJ.start (k:=k) (sb:=h) (d:=d+1) (c:=⟨[],true,some ⟨l,0,none⟩,a.length,A,p⟩) (t:=.list p a) HS.o lS.o ht hw (HB1.o.mono aP));have rz:=di (Doc.kQ hok);have QI:=di (fun K i=>Nat.le_trans (Doc.jl (ks:=a) K i) hwd);have Ig:=di ih;obtain⟨z,KP⟩:=aJ (Doc.gI (Doc.term S.syms d) (a.drop 1) S.terms []);rw[KP]at QK;have acm:=di KP;have HT2:=di QK;clear KP QK hnone ht hok hwd ih;cases io
    ·cases fs with
     | none=>exact absurd ⟨rfl,rfl⟩ YV.o
     | some s=>
      obtain⟨hs1,hs2⟩:=BZ.o s rfl
      have aft:Hid (S.syms[s].name.length<=1000):=by
       show _<=_;rw[hs2];exact hxl
      have hps:placeOf (some s)=(s:Int):=rfl;clear hs2;go_wp2_with fail
      go_loopw [12,13] (fun bg E wr=>∃(j:Nat) (b:List Nat) (e:List Doc.Term) (t:Own),E=.int .i64 j/\1<=j/\j<=a.length/\b.length<=j/\oJ w wr own t k h (d+1) ⟨[],true,some ⟨l,0,none⟩,a.length,A,p⟩ (.list p a) S e bg b/\Doc.gI (Doc.term S.syms d) (a.drop j) e b=z) (fun _ E _=>a.length-(intOf E).toNat)
      case atStart=>exact⟨1,[],S.terms,own,rfl,aO,aO,aP,wJ.o,acm.o⟩
      case round=>
       obtain⟨j,b,e,t,rfl,hj1,hj2,hacc,c,Y⟩:=hrel;have F:=di c;have G:=di Y;have c2:=c.box.k;have Z:=c.box.p;simp only[Nat.zero_add]at c2 Z;obtain⟨av,xZ,rfl,hv1,hv2⟩:=fM c.row;clear Y b2 k3'
       by_cases H:j<a.length
       ·obtain⟨_,_,_,Q⟩:=c.tree;obtain⟨Hw,cap2,V7,_,_,sw⟩:=Q;injection V7 with f1 f2 f3
        simp only at f1 f3;subst f1 f3;obtain⟨g2,f,ho2,Ey⟩:=sw j H;injection f with f;injection f with f;subst f;obtain⟨C,n,KC⟩:=Ey H;have m0:=n.x;have m1:=n.b;have m2:=n.k;have m3:=n.p;have hmem:a[j]∈a:=aP;have zO:=rz.o a[j] hmem;have PN:=QI.o a[j] hmem;have LW:=di (Ig.o a[j] C t { S with terms:=e } wr c.stack c.fr.fresh c.wf KC zO aO);have Ah:=di (fun r=>Doc.rU S.syms d a[j] e r c.wf zO aO);have rO:=di (Doc.uw (one:=Doc.term S.syms d) H e b);clear Ey sw KC n c;generalize a[j]=tj at *;go_wp2_with fail;refine LW.o.mono ?_;rintro g q ⟨zB,u,v⟩;cases hT:Doc.term S.syms d tj e with
        | error xx=>
         simp only[hT]at v;obtain⟨rfl,hne,ex,o⟩:=v;have hen:((xx.1:Int) !=0)=true:=aZ;have m:V=.error xx:=by rw[HT2.o,<-G.o,rO.o,hT]
         have rQ:=di u;have jN:=di o;clear hT u o;go_wp2_with fail
         go_ret3
         exact alW
        | ok r=>
         exact akX
       ·have LM:Hid (z=.ok (e,b)):=by
         show _=_;rw[<-G.o,List.drop_eq_nil_of_le aO];rfl
        obtain⟨z1,z2,z3,z4,z5⟩:=c.done;have HZ1:=di z1;have Ii:=di c.ext;have kI:=di (Nj h k (jP t (.slice av b.length xZ)) { S with terms:=e } s _ b wr z2 z4 hk c.wf.many hs1 z3 c.lt c.wf.long aft.o aO);have kZ:=di (fun g=>Doc.Ni (ss:=S.syms) (ts:=e) (s:=s) (args:=b) (e:=g));have m:V=Doc.ig p (Doc.applied S.syms e s b):=by rw[HT2.o,LM.o];rfl
        have Ue:=di m;have HZ5:=di z5;clear z1 z2 z3 z4 z5 c m;go_wp2_with fail;refine kI.o.mono ?_;rintro g w3 J;obtain⟨L,bn,rfl⟩:=J.two;have HP:=di J;obtain⟨mM,q1,_⟩:=J;have hcp:w3.cell? ⟨w.heap.size,3,none⟩=some (.int .i64 p):=q1.cell (p:=⟨w.heap.size,3,none⟩) Z (by rw[HZ5.o];omega);clear q1;go_wp2_with fail;go_quiet (fail);go_wp2_with fail
        go_ret3
        rw[Ue.o];exact(gW.term HZ1.o Ii.o HP.o kZ.o).below (below_drewN af _)
    ·generalize placeOf fs=pf at *;go_wp2_with fail
     go_loopw [12,13] (fun bg E wr=>∃(j:Nat) (b:List Nat) (e:List Doc.Term) (t:Own),E=.int .i64 j/\1<=j/\j<=a.length/\b.length<=j/\oJ w wr own t k h (d+1) ⟨[],true,some ⟨l,0,none⟩,a.length,A,p⟩ (.list p a) S e bg b/\Doc.gI (Doc.term S.syms d) (a.drop j) e b=z) (fun _ E _=>a.length-(intOf E).toNat)
     case atStart=>exact⟨1,[],S.terms,own,rfl,aO,aO,aP,wJ.o,acm.o⟩
     case round=>
      obtain⟨j,b,e,t,rfl,hj1,hj2,hacc,c,Y⟩:=hrel;have F:=di c;have G:=di Y;have c2:=c.box.k;have Z:=c.box.p;simp only[Nat.zero_add]at c2 Z;obtain⟨av,xZ,rfl,hv1,hv2⟩:=fM c.row;clear Y b2 k3'
      by_cases H:j<a.length
      ·obtain⟨_,_,_,Q⟩:=c.tree;obtain⟨Hw,cap2,V7,_,_,sw⟩:=Q;injection V7 with f1 f2 f3
       simp only at f1 f3;subst f1 f3;obtain⟨g2,f,ho2,Ey⟩:=sw j H;injection f with f;injection f with f;subst f;obtain⟨C,n,KC⟩:=Ey H;have m0:=n.x;have m1:=n.b;have m2:=n.k;have m3:=n.p;have hmem:a[j]∈a:=aP;have zO:=rz.o a[j] hmem;have PN:=QI.o a[j] hmem;have LW:=di (Ig.o a[j] C t { S with terms:=e } wr c.stack c.fr.fresh c.wf KC zO aO);have Ah:=di (fun r=>Doc.rU S.syms d a[j] e r c.wf zO aO);have rO:=di (Doc.uw (one:=Doc.term S.syms d) H e b);clear Ey sw KC n c;generalize a[j]=tj at *;go_wp2_with fail;refine LW.o.mono ?_;rintro g q ⟨zB,u,v⟩;cases hT:Doc.term S.syms d tj e with
       | error xx=>
        simp only[hT]at v;obtain⟨rfl,hne,ex,o⟩:=v;have hen:((xx.1:Int) !=0)=true:=aZ;have m:V=.error xx:=by rw[HT2.o,<-G.o,rO.o,hT]
        have rQ:=di u;have jN:=di o;clear hT u o;go_wp2_with fail
        go_ret3
        exact alW
       | ok r=>
        exact akX
      ·have LM:Hid (z=.ok (e,b)):=by
        show _=_;rw[<-G.o,List.drop_eq_nil_of_le aO];rfl
       obtain⟨z1,z2,z3,z4,z5⟩:=c.done;have HZ1:=di z1;have Ii:=di c.ext;have kI:=di (JI h k (jP t (.slice av b.length xZ)) { S with terms:=e } x _ b wr z2 z4 hk c.wf z3 c.lt aO);have kZ:=di (fun g=>Doc.MM (ts:=e) (w:=x) (args:=b) (e:=g) Doc.forms);have m:V=Doc.ig p (Doc.l8 e x b):=by rw[HT2.o,LM.o];rfl
       have Ue:=di m;have HZ5:=di z5;clear z1 z2 z3 z4 z5 c m;go_wp2_with fail;refine kI.o.mono ?_;rintro g w3 J;obtain⟨L,bn,rfl⟩:=J.two;have HP:=di J;obtain⟨mM,q1,_⟩:=J;have hcp:w3.cell? ⟨w.heap.size,3,none⟩=some (.int .i64 p):=q1.cell (p:=⟨w.heap.size,3,none⟩) Z (by rw[HZ5.o];omega);clear q1;go_wp2_with fail;go_quiet (fail);go_wp2_with fail
       go_ret3
       rw[Ue.o];exact(gW.term HZ1.o Ii.o HP.o kZ.o).below (below_drewN af _)
theorem Xi (a k:Nat)(e:k≠0):∀(d:Nat) (t:Doc.Tr) (c:Tc) (own:Own) (S:Doc.dB) (w:World),dE w own k a S->dH own w->Doc.gP S.syms S.terms->ik w (fun q=>own q=0) d c t->t.ok->t.width<=800->
 Calls Tryz.prog 187 #[.pointer (some ⟨a,0,none⟩),.agg #[.string ⟨c.x.toArray⟩,.bool c.bb,.slice c.ao c.m c.cap,.int .i64 c.p]] w fun r s=>gU w s own k a S (Doc.term S.syms d t S.terms) r:=by
 intro d
 induction d with
 | zero=>intro t c own S w _ _ _ b;exact b.elim
 | succ d u=>
  intro t c own S w f g h b i j;cases t with
  | word p x=>
   have v:c=⟨x,false,none,0,0,p⟩:=b;subst v;simp only[Doc.Tr.width]at j;exact TL a k d own S p x w f g e h aO
  | list p y=>
   have z:=b;obtain⟨l,m,n,o⟩:=z;obtain⟨x,F,A,G,B,C⟩:=c;simp only at l m n o;subst l m n;obtain⟨H,I,D,_⟩:=o;injection D with J E K
   subst E;simp only[Doc.Tr.ok]at i;simp only[Doc.Tr.width]at j;exact TM a k d own S C y A B w f g e h b i aO u
theorem dE.rZ {own:Own}{S:Doc.dB}(h:dE w own n m S){v f:Value}(x:w.cell? ⟨m,0,none⟩=some v)(a:jg w W own O n m 0 v f)(P:n≠0){c:List Doc.Sym}(y:dN W O n 174 3 (vN W O) f c):dE W O n m { S with syms:=c }:=by
 obtain⟨Q,d,z⟩:=h.syms;obtain⟨A,B,k⟩:=h.terms;obtain⟨C,D,l⟩:=h.held;obtain⟨E,F,p⟩:=h.levels;rw[x]at d;injection d with d
 subst d;obtain⟨G,q⟩:=h.obj;have g:∀b,b<w.heap.size->own b=0->W.heap[b]?=w.heap[b]?/\O b=0:=fun b e h=>⟨a.fr.block b e aO,by rw[a.fr.ext b e,h]⟩
 have i:∀{r:Type} {j:TypeId} {H:Nat} {I:List Value->r->Prop} {u:Value} {c:List r},dN w own n j H I u c->j≠83->j≠174->∀b,u.ownBlock=some b->W.heap[b]?=w.heap[b]?/\O b=own b:=fun J K L b e=>by
  obtain⟨_,s,R,t⟩:=J.type b e;refine⟨a.other b s (gp t q K) ?_,a.fr.ext b s⟩;intro M;obtain⟨_,_,T,N⟩:=z.type b M;exact gp t N L rfl
 refine⟨ahY,a.type G _ q,fun o=>(a.frozen o).trans (h.fr o),⟨f,a.cell,y⟩,⟨A,(a.cells 1 aO).trans B,k.step rV g (i k aR aR)⟩,⟨C,(a.cells 2 aO).trans D,l.step oz g (i l aR aR)⟩,⟨E,(a.cells 3 aO).trans F,p.step qF g (i p aR aR)⟩⟩
theorem dE.si {own:Own}{S:Doc.dB}(h:dE w own n m S){v f:Value}(x:w.cell? ⟨m,2,none⟩=some v)(a:jg w W own O n m 2 v f)(P:n≠0){c:List Nat}(y:dN W O n 3 1 (xP W O) f c):dE W O n m { S with held:=c }:=by
 obtain⟨z,A,k⟩:=h.syms;obtain⟨B,C,l⟩:=h.terms;obtain⟨Q,d,D⟩:=h.held;obtain⟨E,F,p⟩:=h.levels;rw[x]at d;injection d with d
 subst d;obtain⟨G,q⟩:=h.obj;have g:∀b,b<w.heap.size->own b=0->W.heap[b]?=w.heap[b]?/\O b=0:=fun b e h=>⟨a.fr.block b e aO,by rw[a.fr.ext b e,h]⟩
 have i:∀{r:Type} {j:TypeId} {H:Nat} {I:List Value->r->Prop} {u:Value} {c:List r},dN w own n j H I u c->j≠83->j≠3->∀b,u.ownBlock=some b->W.heap[b]?=w.heap[b]?/\O b=own b:=fun J K L b e=>by
  obtain⟨_,s,R,t⟩:=J.type b e;refine⟨a.other b s (gp t q K) ?_,a.fr.ext b s⟩;intro M;obtain⟨_,_,T,N⟩:=D.type b M;exact gp t N L rfl
 refine⟨ahY,a.type G _ q,fun o=>(a.frozen o).trans (h.fr o),⟨z,(a.cells 0 aO).trans A,k.step kM g (i k aR aR)⟩,⟨B,(a.cells 1 aO).trans C,l.step rV g (i l aR aR)⟩,⟨f,a.cell,y⟩,⟨E,(a.cells 3 aO).trans F,p.step qF g (i p aR aR)⟩⟩
theorem dE.nI {w2:World}{own own':Own}{S:Doc.dB}(h:dE w own n m S){v f:Value}(x:w.cell? ⟨m,3,none⟩=some v)(a:jg w w2 own own' n m 3 v f)(O:n≠0){c:List (Nat × Nat × Nat)}(y:dN w2 own' n 172 3 (Bd w2 own') f c):dE w2 own' n m { S with levels:=c }:=by
 obtain⟨z,A,k⟩:=h.syms;obtain⟨B,C,l⟩:=h.terms;obtain⟨D,E,p⟩:=h.held;obtain⟨P,d,F⟩:=h.levels;rw[x]at d;injection d with d
 subst d;obtain⟨G,q⟩:=h.obj;have g:∀b,b<w.heap.size->own b=0->w2.heap[b]?=w.heap[b]?/\own' b=0:=fun b e h=>⟨a.fr.block b e aO,by rw[a.fr.ext b e,h]⟩
 have i:∀{r:Type} {j:TypeId} {H:Nat} {I:List Value->r->Prop} {u:Value} {c:List r},dN w own n j H I u c->j≠83->j≠172->∀b,u.ownBlock=some b->w2.heap[b]?=w.heap[b]?/\own' b=own b:=fun J K L b e=>by
  obtain⟨_,s,Q,t⟩:=J.type b e;refine⟨a.other b s (gp t q K) ?_,a.fr.ext b s⟩;intro M;obtain⟨_,_,R,N⟩:=F.type b M;exact gp t N L rfl
 refine⟨ahY,a.type G _ q,fun o=>(a.frozen o).trans (h.fr o),⟨z,(a.cells 0 aO).trans A,k.step kM g (i k aR aR)⟩,⟨B,(a.cells 1 aO).trans C,l.step rV g (i l aR aR)⟩,⟨D,(a.cells 2 aO).trans E,p.step oz g (i p aR aR)⟩,⟨f,a.cell,y⟩⟩
theorem zu {own:Own}{v':Value}(f:dH own w)(g:own m=n)(i:w.cell? ⟨m,k,none⟩=some v):jg w (w.setCell ⟨m,k,none⟩ v') own own n m k v v':=by
 have c:∀b,b≠m->(w.setCell ⟨m,k,none⟩ v').heap[b]?=w.heap[b]?:=fun b a=>aC a;have d:(w.setCell ⟨m,k,none⟩ v').heap.size=w.heap.size:=aik;refine⟨⟨rfl,rfl,rfl,by rw[d];exact ae,fun b _ j=>c b (fun e=>j (by rw[e];exact g)),fun _ _=>rfl,fun b a=>f b (by rw[d]at a;exact a)⟩,World.cell?_setCell_same _ _ _ i,?_,fun o=>World.frozen?_setCell _ _ _ _,fun b _ l _=>c b l,fun q e h=>jK h⟩;intro r p;exact ak (fun h=>p aiF)
theorem dN.set {c:Type}{C:World->Own->List Value->c->Prop}(l:EX C){w:World}{own:Own}{k a f:Nat}{e d:TypeId}{g:Nat}{v u:Value}{h:List c}{m:Array Value}(i:dN w own k e g (C w own) v h)(n:own a≠0)(o:w.heap[a]?=some (.cells m d (0,0)))(p:e≠d) :
 dN (w.setCell ⟨a,f,none⟩ u) own k e g (C (w.setCell ⟨a,f,none⟩ u) own) v h:=by
 refine i.step l (fun b _ j=>⟨aC (fun e=>n (by rw[<-show b=a from e];exact j)),j⟩) (fun b q=>⟨Below.heap_setCell _ _ _ _ ?_,rfl⟩);obtain⟨_,_,s,r⟩:=i.type b q;exact gp r o p
theorem dE.DX {own:Own}{S:Doc.dB}{ao:Option Addr}{cap n:Nat}(h:dE w own m k S)(e:dH own w)(c:m≠0)(b:w.cell? ⟨k,1,none⟩=some (.slice ao S.terms.length cap))(f:n<=S.terms.length) :
 Fr own own m w (w.setCell ⟨k,1,none⟩ (.slice ao n cap))/\dE (w.setCell ⟨k,1,none⟩ (.slice ao n cap)) own m k { S with terms:=S.terms.take n }:=by
 obtain⟨v,a,g⟩:=h.terms;rw[b]at a;injection a with a
 subst a;obtain⟨j,i⟩:=h.obj;have d:=zu (v':=.slice ao n cap) e h.mine b;exact⟨d.fr,h.pK b d c ((g.take n f).set rV ajL i aR)⟩
theorem dE.Z9 {own:Own}{S:Doc.dB}{ao:Option Addr}{cap n:Nat}(h:dE w own m k S)(e:dH own w)(c:m≠0)(b:w.cell? ⟨k,0,none⟩=some (.slice ao S.syms.length cap))(f:n<=S.syms.length) :
 Fr own own m w (w.setCell ⟨k,0,none⟩ (.slice ao n cap))/\dE (w.setCell ⟨k,0,none⟩ (.slice ao n cap)) own m k { S with syms:=S.syms.take n }:=by
 obtain⟨v,a,g⟩:=h.syms;rw[b]at a;injection a with a
 subst a;obtain⟨j,i⟩:=h.obj;have d:=zu (v':=.slice ao n cap) e h.mine b;exact⟨d.fr,h.rZ b d c ((g.take n f).set kM ajL i aR)⟩
theorem dE.aaa {own:Own}{S:Doc.dB}{ao:Option Addr}{cap n:Nat}(h:dE w own m k S)(e:dH own w)(c:m≠0)(b:w.cell? ⟨k,2,none⟩=some (.slice ao S.held.length cap))(f:n<=S.held.length) :
 Fr own own m w (w.setCell ⟨k,2,none⟩ (.slice ao n cap))/\dE (w.setCell ⟨k,2,none⟩ (.slice ao n cap)) own m k { S with held:=S.held.take n }:=by
 obtain⟨v,a,g⟩:=h.held;rw[b]at a;injection a with a
 subst a;obtain⟨j,i⟩:=h.obj;have d:=zu (v':=.slice ao n cap) e h.mine b;exact⟨d.fr,h.si b d c ((g.take n f).set oz ajL i aR)⟩
theorem dE.Tp {own:Own}{S:Doc.dB}{ao:Option Addr}{cap n:Nat}(h:dE w own m k S)(e:dH own w)(c:m≠0)(b:w.cell? ⟨k,3,none⟩=some (.slice ao S.levels.length cap))(f:n<=S.levels.length) :
 Fr own own m w (w.setCell ⟨k,3,none⟩ (.slice ao n cap))/\dE (w.setCell ⟨k,3,none⟩ (.slice ao n cap)) own m k { S with levels:=S.levels.take n }:=by
 obtain⟨v,a,g⟩:=h.levels;rw[b]at a;injection a with a
 subst a;obtain⟨j,i⟩:=h.obj;have d:=zu (v':=.slice ao n cap) e h.mine b;exact⟨d.fr,h.nI b d c ((g.take n f).set qF ajL i aR)⟩
theorem OJ (c:Tc)(w:World) :
 Calls Tryz.prog 186 #[.agg #[.string ⟨c.x.toArray⟩,.bool c.bb,.slice c.ao c.m c.cap,.int .i64 c.p]] w fun i j=>i=.returned (.int .i64 (Doc.fw c.x))/\Below w.heap.size w j:=by
 have k:=fJ;have e:Hid (Below w.heap.size w (w.alloc (.cells #[.string ⟨c.x.toArray⟩,.bool c.bb,.slice c.ao c.m c.cap,.int .i64 c.p] 138))):=ag;obtain⟨x,l,m,n,o,p⟩:=c;simp only at e;simp only;have g:Hid (Doc.fw x=if x=[66,111,111,108] then 1 else if x=[73,110,116] then 2 else if x=[85] then 3 else 0):=rfl;generalize Doc.fw x=h at *;cases h1:(x==[66,111,111,108])
 ·have a:x≠[66,111,111,108]:=by simpa using h1
  cases h2:(x==[73,110,116])
  ·have b:x≠[73,110,116]:=by simpa using h2
   cases h3:(x==[85])
   ·have f:x≠[85]:=by simpa using h3
    have d:Hid (h=0):=by show _=_;rw[g.o,if_neg a,if_neg b,if_neg f]
    clear a b f;exact alp
   ·have f:x=[85]:=by simpa using h3
    have d:Hid (h=3):=by show _=_;rw[g.o,if_neg a,if_neg b,if_pos f]
    clear a b f;exact alp
  ·have b:x=[73,110,116]:=by simpa using h2
   have d:Hid (h=2):=by show _=_;rw[g.o,if_neg a,if_pos b]
   clear a b;exact alp
 ·have a:x=[66,111,111,108]:=by simpa using h1
  have d:Hid (h=1):=by show _=_;rw[g.o,if_pos a]
  clear a;exact alp
theorem IG (x:List UInt8)(w:World)(f:0<x.length)(m:x.length<=1000000) :
 Calls Tryz.prog 184 #[.string ⟨x.toArray⟩] w fun e g=>e=.returned (.bool (Doc.forbidden x))/\Below w.heap.size w g:=by
 have n:=fJ
 have c:x.headD 0=x[0]:=by
  cases x with
  | nil=>simp at f
  | cons o u=>rfl
 have a:Hid (Doc.forbidden x=(Doc.jY x||x==[116,114,117,101]||x==[102,97,108,115,101]||x==[66,111,111,108]||x==[73,110,116]||x==[85]||!(Doc.letter x[0])||decide (8<x.length))):=by
  show _=_;unfold Doc.forbidden;rw[c];rfl
 have h:Hid (Doc.letter x[0]=((decide (97<=x[0].toNat)&&decide (x[0].toNat<=122))||(decide (65<=x[0].toNat)&&decide (x[0].toNat<=90)))):=rfl;have i:=di (Jc x w);generalize Doc.forbidden x=j at *;generalize Doc.jY x=k at *;generalize Doc.letter x[0]=lt at *;clear c;go_enter Tryz.func184,Tryz.ntmps184;go_wp2_with fail;refine i.o.mono ?_;rintro e p ⟨rfl,d⟩;have b:=di d;clear d;cases k
 ·cases h1:(x==[116,114,117,101])
  ·cases h2:(x==[102,97,108,115,101])
   ·cases h3:(x==[66,111,111,108])
    ·cases h4:(x==[73,110,116])
     ·cases h5:(x==[85])
      ·have l:Hid (j=(!lt||decide (8<x.length))):=by show _=_;rw[a.o,h1,h2,h3,h4,h5];simp
       by_cases q:(97:Int)<=x[0].toNat<;>by_cases r:(x[0].toNat:Int)<=122<;>by_cases s:(65:Int)<=x[0].toNat<;>by_cases t:(x[0].toNat:Int)<=90<;>by_cases v:(8:Int)<x.length
       all_goals
        first
        | (exfalso;omega)
        | (go_wp2_with fail
           go_ret;refine⟨dK ?_,b.o⟩;rw[l.o,h.o,Bool.eq_iff_iff];simp only[Bool.or_eq_true,Bool.not_eq_true',Bool.or_eq_false_iff,Bool.and_eq_false_iff,decide_eq_true_eq,decide_eq_false_iff_not,eq_self,true_iff];omega)
      ·go_wp2_with fail;go_ret;exact⟨dK (by rw[a.o,h5];simp),b.o⟩
     ·go_wp2_with fail;go_ret;exact⟨dK (by rw[a.o,h4];simp),b.o⟩
    ·go_wp2_with fail;go_ret;exact⟨dK (by rw[a.o,h3];simp),b.o⟩
   ·go_wp2_with fail;go_ret;exact⟨dK (by rw[a.o,h2];simp),b.o⟩
  ·go_wp2_with fail;go_ret;exact⟨dK (by rw[a.o,h1];simp),b.o⟩
 ·go_wp2_with fail;go_ret;exact⟨dK (by rw[a.o];simp),b.o⟩
def jy (w w':World)(own:Own)(k sb:Nat)(S:Doc.dB)(R:Except (Nat × Nat) Doc.dB)(e:Ending):Prop:=
 ∃own',Fr own own' k w w'/\match R with
  | .ok S'=>e=.returned (.tuple #[.int .i64 0,.int .i64 0])/\dE w' own' k sb S'
  | .error x=>e=.returned (.tuple #[.int .i64 x.1,.int .i64 x.2])/\dE w' own' k sb S
theorem jy.two {own:Own}{S:Doc.dB}{R:Except (Nat × Nat) Doc.dB}(b:jy w W own n m S R h):∃c d:Nat,h=.returned (.tuple #[.int .i64 c,.int .i64 d]):=by
 obtain⟨e,f,a⟩:=b;cases R with
 | ok r=>exact⟨0,0,a.1⟩
 | error x=>exact⟨x.1,x.2,a.1⟩
theorem jy.err {own:Own}{S:Doc.dB}(a:Fr own o n w W)(b:dE W o n m S):jy w W own n m S (.error (k,i)) (.returned (.tuple #[.int .i64 k,.int .i64 i])):=⟨o,a,rfl,b⟩
theorem jy.below {own:Own}{S:Doc.dB}{R:Except (Nat × Nat) Doc.dB}(d:jy w W own n m S R h)(b:Below W.heap.size W u):jy w u own n m S R h:=by
 obtain⟨e,c,a⟩:=d;refine⟨e,c.trans (Fr.of_below n c.fresh b),?_⟩;cases R with
 | ok r=>exact⟨a.1,a.2.below b⟩
 | error x=>exact⟨a.1,a.2.below b⟩
theorem ik.kids {P:Nat->Prop}(l:ik w P (n+1) D (.list m A)):∃b a,D=⟨[],true,b,A.length,a,m⟩/\A.length<=a/\a<=2 ^ 63-1/\∀j (c:j<A.length),∃g,b=some ⟨g,0,none⟩/\P g/\∃d:Tc,kg w g (j*4) d/\ik w P n d A[j]:=by
 obtain⟨e,f,h,i⟩:=l;obtain⟨y,z,b,B,a,C⟩:=D;simp only at e f h i;subst e f h;obtain⟨E,F,o,p,k,q⟩:=i;injection o with r s t
 subst r s t;unfold maxLen at k;refine⟨_,_,rfl,p,k,fun j c=>?_⟩;obtain⟨g,u,v,x⟩:=q j c;exact⟨g,u,v,x c⟩
theorem Qr {S:Doc.dB}{p:Nat}(h:A.length=2):Doc.assert S p A=match Doc.term S.syms 12 (A[1]' aO) S.terms with
 | .error x=>.error x
 | .ok r=>if Doc.dF r.1 r.2≠1 then .error (7,(A[1]' aO).pos) else if S.held.length=12 then .error (9,p) else .ok { S with terms:=r.1,held:=S.held++[r.2] }:=by
 match A,h with
 | [a,b],_=>rfl
theorem Qs {S:Doc.dB}(h:A.length≠2):Doc.assert S n A=.error (4,n):=by
 match A,h with
 | [],_=>rfl
 | [a],_=>rfl
 | [a,b],h=>exact absurd rfl h
 | a::b::c::l,_=>rfl
theorem ik.pos {P:Nat->Prop}(h:ik w P n D Y):D.p=Y.pos:=by
 cases n with
 | zero=>exact h.elim
 | succ n=>
  cases Y with
  | word p x=>rw[show D=_ from h];rfl
  | list p a=>exact h.2.2.1
theorem ik.text {P:Nat->Prop}(h:ik w P n D Y):D.x=Y.text:=by
 cases n with
 | zero=>exact h.elim
 | succ n=>
  cases Y with
  | word p x=>rw[show D=_ from h];rfl
  | list p a=>exact h.1
theorem ik.isL {P:Nat->Prop}(h:ik w P n D Y):D.bb=Y.isList:=by
 cases n with
 | zero=>exact h.elim
 | succ n=>
  cases Y with
  | word p x=>rw[show D=_ from h];rfl
  | list p a=>exact h.2.1
theorem gU.lift {own:Own}{S:Doc.dB}{R:Except (Nat × Nat) (List Doc.Term × Nat)}(a:dH own w)(b:Below w.heap.size w W)(c:gU W u own n m S R h):gU w u own n m S R h:=by
 exact alI
theorem gU.three {own:Own}{S:Doc.dB}{R:Except (Nat × Nat) (List Doc.Term × Nat)}(b:gU w W own n m S R h):∃c d e:Nat,h=.returned (.tuple #[.int .i64 c,.int .i64 d,.int .i64 e]):=by
 obtain⟨g,i,a⟩:=b;cases R with
 | ok r=>obtain⟨⟨p,f⟩,_⟩:=a;exact⟨r.2,0,p,f⟩
 | error x=>exact⟨0,x.1,x.2,a.1⟩
structure YD (wx:World)(B g p q n cap:Nat)(kc:Tc):Prop where
 k2:wx.cell? ⟨B,2,none⟩=some (.slice (some ⟨g,0,none⟩) n cap)
 k3:wx.cell? ⟨B,3,none⟩=some (.int .i64 p)
 k4:wx.cell? ⟨g,4,none⟩=some (.string ⟨kc.x.toArray⟩)
 k5:wx.cell? ⟨g,5,none⟩=some (.bool kc.bb)
 k6:wx.cell? ⟨g,6,none⟩=some (.slice kc.ao kc.m kc.cap)
 k7:wx.cell? ⟨g,7,none⟩=some (.int .i64 q)
def Came (w wx:World)(own:Own)(k sb:Nat)(S:Doc.dB)(R:Except (Nat × Nat) (List Doc.Term × Nat))(a b c:Value):Prop:=∃na nb nc:Nat,a=.int .i64 na/\b=.int .i64 nb/\c=.int .i64 nc/\gU w wx own k sb S R (.returned (.tuple #[.int .i64 na,.int .i64 nb,.int .i64 nc]))
theorem Qt (b k:Nat)(own:Own)(S:Doc.dB)(p:Nat)(a:List Doc.Tr)(l:Tc)(w:World)(A:dE w own k b S)(t:dH own w)(P:k≠0)(Q:Doc.fQ S)(ht:ik w (fun g=>own g=0) 13 l (.list p a))(hok:Doc.oks a)(hwd:Doc.eu a<=800) :
 Calls Tryz.prog 137 #[.pointer (some ⟨b,0,none⟩),.agg #[.string ⟨l.x.toArray⟩,.bool l.bb,.slice l.ao l.m l.cap,.int .i64 l.p]] w fun m f=>jy w f own k b S (Doc.assert S p a) m:=by
 have hR:=fJ;obtain⟨i0,hi,hz0,hz1,hz2⟩:=info_parts Tryz.mI;obtain⟨ao,D,rfl,hc1,hc2,zP⟩:=ht.kids;simp only;have B:Below w.heap.size w (w.alloc (.cells #[.string ⟨#[]⟩,.bool true,.slice ao a.length D,.int .i64 p] 138)):=ag;have HB0:=di B;have HS:=di A;have lS:=di t
 by_cases E:a.length=2
 ·have h1l:1<a.length:=aO;obtain⟨g,rfl,hg0,c,F,hkt⟩:=zP 1 h1l;have T:=di (Qr (S:=S) (p:=p) E);have hmem:a[1]∈a:=aP;have zO:=Doc.kQ hok a[1] hmem;have PN:=Doc.jl a[1] hmem;have hpos:=hkt.pos;have G:=F.block (B.block g (ai F.x));have m0:=G.x;have m1:=G.b;have m2:=G.k;have m3:=G.p;simp only[Nat.one_mul,Nat.reduceAdd]at m0 m1 m2 m3;have o2:((a.length:Int) !=2)=false:=by rw[E];rfl
  have YL:Hid (∀W,Below (w.heap.size+1) (w.alloc (.cells #[.string ⟨#[]⟩,.bool true,.slice (some ⟨g,0,none⟩) a.length D,.int .i64 p] 138)) W->Calls Tryz.prog 187 #[.pointer (some ⟨b,0,none⟩),.agg #[.string ⟨c.x.toArray⟩,.bool c.bb,.slice c.ao c.m c.cap,.int .i64 c.p]] W fun m f=>
   (∃n o q:Nat,m=.returned (.tuple #[.int .i64 n,.int .i64 o,.int .i64 q])/\gU w f own k b S (Doc.term S.syms 12 a[1] S.terms) (.returned (.tuple #[.int .i64 n,.int .i64 o,.int .i64 q])))/\YD f w.heap.size g p c.p a.length D c):=by
   intro W u;have U:own g≠k:=by rw[show own g=0 from hg0];omega
   have V:g<w.heap.size+1:=by
    have:=ai F.x;simp only at this;exact aO
   have X:Below w.heap.size w W:=B.trans (u.mono aO);refine(Xi b k P 12 a[1] c own S W (A.below X) (t.below X) Q.book (hkt.below X) zO aO).mono ?_;intro m f H;obtain⟨n,o,q,rfl⟩:=H.three;obtain⟨s,h,q2⟩:=id H;refine⟨⟨n,o,q,rfl,gU.lift t X H⟩,h.cell ?_ ?_,h.cell ?_ ?_,h.cell ?_ U,h.cell ?_ U,h.cell ?_ U,h.cell ?_ U⟩
   ·exact(u.cell (p:=⟨w.heap.size,2,none⟩) aP).trans aP
   ·rw[t w.heap.size ae];exact aO
   ·exact(u.cell (p:=⟨w.heap.size,3,none⟩) aP).trans aP
   ·rw[t w.heap.size ae];exact aO
   ·exact(u.cell (p:=⟨g,4,none⟩) V).trans m0
   ·exact(u.cell (p:=⟨g,5,none⟩) V).trans m1
   ·exact(u.cell (p:=⟨g,6,none⟩) V).trans m2
   ·exact(u.cell (p:=⟨g,7,none⟩) V).trans m3
  have Ah:=di (fun r=>Doc.rU S.syms 12 a[1] S.terms r Q.book zO aO)
  have ahj:w.heap.size≠g:=by
   have:=ai F.x;simp only at this;exact aO
  generalize Doc.term S.syms 12 a[1] S.terms=RT at *;generalize a[1]=t1 at *;generalize Doc.assert S p a=R at *;rw[hpos]at m3 YL;generalize t1.pos=h at *;obtain⟨vT,hT1,SK⟩:=A.terms;obtain⟨aT,jZ,rfl,hT3,hT4⟩:=SK.form;have aeJ:=(B.cell (p:=⟨b,1,none⟩) A.lt).trans hT1;have hnh:=Q.pE;have hl1:(1:Int)<(a.length:Int):=aO;have hnt:=Q.book.many;clear zP A t F G hkt SK hT1 hg0 hmem zO PN hok hwd ht B E hpos;go_enter Tryz.func137,Tryz.ntmps137;go_upto_region 4 with fail;go_cut [7,8,9] (fun bn bq l wx=>Came w wx own k b S RT bn bq l/\YD wx w.heap.size g p h a.length D c)
  case first=>
   go_region_held3 (fun f=>f.cell? ⟨w.heap.size,2,none⟩=some (.slice (some ⟨g,0,none⟩) a.length D)/\f.cell? ⟨g,4,none⟩=some (.string ⟨c.x.toArray⟩)/\f.cell? ⟨g,5,none⟩=some (.bool c.bb)/\f.cell? ⟨g,6,none⟩=some (.slice c.ao c.m c.cap)/\f.cell? ⟨g,7,none⟩=some (.int .i64 h)) (go_keep) (first|(go_at_call 187;refine(YL.o _ ah0).mono ?_;rintro m w1 ⟨⟨n,o,q,rfl,H⟩,i⟩;have z2:=i.k2;have z4:=i.k4;have z5:=i.k5;have z6:=i.k6;have z7:=i.k7))
   all_goals
    go_wp2_with fail;go_meet
    case rel=>exact⟨⟨n,o,q,rfl,rfl,rfl,H⟩,i⟩
  case rest=>
   obtain⟨⟨n,o,q,rfl,rfl,rfl,s,hf1,hm⟩,i⟩:=hcut;have v:=di hf1;have z2:=i.k2;have z3:=i.k3;have z7:=i.k7;clear i hf1 aeJ;cases RT with
   | error x=>
    obtain⟨e,hne,ex,d⟩:=hm;injection e with e
    injection e with e;simp only[Array.mk.injEq,List.cons.injEq,Value.int.injEq,true_and,and_true]at e;obtain⟨I,J,Y⟩:=e;have I:n=0:=aO;have J:o=x.1:=aO;have Y:q=x.2:=aO;subst I J Y;have j:R=.error x:=T.o;have y:=di j;clear j;have n1:((x.1:Int)==0)=false:=aj aO;have n2:((x.1:Int) !=0)=true:=aZ;obtain⟨vT,C,K⟩:=d.terms;obtain⟨aU,WY,rfl,u1,u2⟩:=K.form;simp only[List.length_append]at C u1;have hfz:=d.fr 1;have Z:=di (d.DX (n:=S.terms.length) (ao:=aU) (cap:=WY) v.o.fresh P (by simpa using C) aP);clear d K;go_wp2_with fail;go_ret2;rw[y.o];obtain⟨L,M⟩:=Z.o;refine⟨s,v.o.trans L,rfl,?_⟩;simpa using M
   | ok r=>
    obtain⟨⟨pp,e⟩,d⟩:=hm;injection e with e
    injection e with e;simp only[Array.mk.injEq,List.cons.injEq,Value.int.injEq,true_and,and_true]at e;obtain⟨I,J,Y⟩:=e;have I:n=r.2:=aO;have J:o=0:=aO;subst I J;have hg:=Ah.o r rfl;obtain⟨ex,hex⟩:=hg.ext;have hlt:=hg.lt;obtain⟨vT,C,K⟩:=d.terms;obtain⟨aU,WY,rfl,u1,u2⟩:=K.form;simp only at C u1;obtain⟨vb,vb1,vb2⟩:=d.book.terms;rw[C]at vb1;injection vb1 with vb1;subst vb1;obtain⟨aV,ahH,hvv,_,_,hel⟩:=vb2;injection hvv with e1 e2 e3;subst e1 e3;obtain⟨gT,rfl,NB⟩:=hel r.2 hlt;have hsrt:=(NB hlt).sort;have hts:Doc.dF r.1 r.2=r.1[r.2].sort:=rX hlt;have hfz:=d.fr 1;have aeq:=d.fr 2;obtain⟨vH,KF,hh2⟩:=d.held;obtain⟨aH,K6,rfl,hh3,hh4⟩:=hh2.form;simp only at KF hh3;have hrl:S.terms.length<=r.1.length:=by rw[hex];simp
    have HST:=di d;have ru:Hid (({ S with terms:=r.1.take S.terms.length }:Doc.dB)=S):=by show _=_;rw[hex];simp
    have Z:=di (d.DX (n:=S.terms.length) (ao:=some ⟨gT,0,none⟩) (cap:=WY) v.o.fresh P C hrl);have HAO:=T.o;simp only[hts]at HAO;have HAH:=di HAO;have LX:=di hh2;have Uv:=di KF;have X9:=d.obj;have HOB:=di X9;clear d hel NB hts HAO hg hex K X9 hh2 Y;generalize r.1[r.2].sort=Gz at *
    by_cases z:Gz=1
    ·have o1:((Gz:Int) !=1)=false:=by rw[z];rfl
     by_cases N:S.held.length=12
     ·have o12:((S.held.length:Int)==12)=true:=by rw[N];rfl
      have j:R=.error (9,p):=by rw[HAH.o,if_neg ajQ,if_pos N]
      have y:=di j;clear j;clear z N;exact alK
     ·have o12:((S.held.length:Int)==12)=false:=aj aO;have j:R=.ok { S with terms:=r.1,held:=S.held++[r.2] }:=by rw[HAH.o,if_neg ajQ,if_neg N]
      have y:=di j;clear j;clear z N;have ag3:=HST.o.lt;obtain⟨xs,x1,x2,x3,x4⟩:=LX.o;have rq:=di x1;have HX:=di (show fO (xP wc s) xs S.held/\(∀x∈xs,x.length=1) from⟨x2,x3⟩)
      have hne:(Value.slice aH S.held.length K6).ownBlock≠some b:=by
       intro bg;obtain⟨_,_,c1,hc1⟩:=LX.o.type b bg;obtain⟨c2,hc2⟩:=HOB.o;exact gp hc1 hc2 aR rfl
      have kZ:=di hne;clear x1 x2 x3 x4 hne;go_wp2_with (at_builtin;refine dD rfl (.tmp 84) (.tmp 86) 57 rfl 0 3 i0 (.int .i64 0) 1 8 Tryz.underlying57 hi hz0 hz1 hz2 rfl aR (.slice aH S.held.length K6) S.held.length xs.flatten rfl (by exact rq.o.alloc _) ⟨wc.heap.size,0,none⟩ 1 [.int .i64 (r.2:Int)] rfl rfl bM bX aX aO aP ?_;intro ga eZ w3 hown' hgrow hg1 hg2;have h:w3.cell? ⟨b,2,none⟩=some (.slice aH S.held.length K6):=((dP hgrow (a:=⟨b,2,none⟩) aQ (fun m=>kZ.o m.symm)).trans (dC _ _ ⟨b,2,none⟩ aQ)).trans KF;have q2:w3.frozen? ⟨b,2,none⟩=false:=((dS hgrow (a:=⟨b,2,none⟩) aQ (fun m=>kZ.o m.symm)).trans (dI _ _ ⟨b,2,none⟩ aQ)).trans aeq);have hap:=nS (n:=S.held.length+1) LX.o v.o.fresh HST.o.mine HST.o.lt kZ.o ((Below.refl wc.heap.size wc).alloc ae _) Uv.o hown' hgrow hg2;have Me:=di hap;clear hap hown' hgrow hg1 hg2;go_wp2_with fail;go_ret2;rw[y.o];obtain⟨p1,p2,p3⟩:=Me.o;refine⟨_,v.o.trans p1.fr,rfl,HST.o.si Uv.o p1 P ?_⟩;exact dN.snoc (w:=wc) (C:=xP wc s) (v:=.slice aH S.held.length K6) ⟨rq.o,HX.o.1,HX.o.2⟩ p2 (fun l bn bg=>bg) rfl rfl aiN
    ·have o1:((Gz:Int) !=1)=true:=aZ;have j:R=.error (7,h):=by rw[HAH.o,if_pos ajQ]
     have y:=di j;clear j;clear z;exact alK
 ·have o2:((a.length:Int) !=2)=true:=aZ;have T:Hid (Doc.assert S p a=.error (4,p)):=Qs E;generalize Doc.assert S p a=R at *;clear E B A t zP;go_enter Tryz.func137,Tryz.ntmps137;go_wp2_with fail;go_quiet (fail);go_wp2_with fail;go_ret2;rw[T.o];exact(jy.err (Fr.of_below k lS.o HB0.o) (HS.o.below HB0.o)).below (below_drewN af _)
end Go.Proofs.YtbichedkajfmiaaGreatDoor
namespace Doc
variable {n:Nat}{r:List Tr}{s:Str}
def uH (n:Nat):UInt8:=UInt8.ofNat (48+n)
def nJ (x:Str)(k:Nat):Nat:=(((List.range 5).drop k).find? (fun n=>x==[uH n])).getD 5
theorem yI (h:n<5)(a:(s==[uH n])=true):nJ s n=n:=by
 unfold nJ;rw[List.drop_eq_getElem_cons ajq,List.getElem_range,List.find?_cons_of_pos (p:=fun b=>s==[uH b]) a];rfl
theorem vD (h:n<5)(a:(s==[uH n])=false):nJ s n=nJ s (n+1):=by
 unfold nJ;rw[List.drop_eq_getElem_cons ajq,List.getElem_range,List.find?_cons_of_neg (by simp[a])]
theorem Sm (h:5<=n):nJ s n=5:=by
 unfold nJ;rw[List.drop_eq_nil_of_le ajq];rfl
theorem Ec (t:Tr):t.text.length<=t.width:=by
 cases t with
 | word q x=>exact ae
 | list q a=>exact Nat.zero_le _
theorem VG (x:Str):(if x=[48] then Except.ok 0 else if x=[49] then .ok 1 else if x=[50] then .ok 2 else if x=[51] then .ok 3 else if x=[52] then .ok 4 else .ok 5:Except (Nat × Nat) Nat)=.ok (nJ x 0):=by
 have e:∀k,(x==[uH k])=decide (x=[uH k]):=fun k=>by rw[Bool.eq_iff_iff];simp
 by_cases a:x=[48]
 ·rw[if_pos a,yI aO (by rw[a];rfl)]
 ·rw[if_neg a,vD aO (by rw[e];exact decide_eq_false a)]
  by_cases b:x=[49]
  ·rw[if_pos b,yI aO cO]
  ·rw[if_neg b,vD aO (by rw[e];exact decide_eq_false b)]
   by_cases c:x=[50]
   ·rw[if_pos c,yI aO (by rw[c];rfl)]
   ·rw[if_neg c,vD aO (by rw[e];exact decide_eq_false c)]
    by_cases d:x=[51]
    ·rw[if_pos d,yI aO aiL]
    ·rw[if_neg d,vD aO (by rw[e];exact decide_eq_false d)]
     by_cases f:x=[52]
     ·rw[if_pos f,yI aO (by rw[f];rfl)]
     ·rw[if_neg f,vD aO (by rw[e];exact decide_eq_false f),Sm aO]
theorem count_one (h:r.length=1):count n r=.ok 1:=by
 match r,h with
 | [a],_=>rfl
theorem Ql (h:2<r.length):count n r=.error (4,n):=by
 match r,h with
 | a::b::c::l,_=>rfl
theorem Tt {p:Nat}{ks:List Tr}(h:ks.length=2):count p ks=if digits (ks[1]' aO).text=true then .ok (nJ (ks[1]' aO).text 0) else .error (4,(ks[1]' aO).pos):=by
 match ks,h with
 | [a,b],_=>simp only[List.getElem_cons_succ,List.getElem_cons_zero];rw[<-VG];rfl
end Doc
namespace Go.Proofs.YtbichedkajfmiaaGreatDoor
open Go.RowKit
def wB:Except (Nat × Nat) Nat->Ending
 | .ok n=>.returned (.tuple #[.int .i64 n,.int .i64 0,.int .i64 0])
 | .error x=>.returned (.tuple #[.int .i64 0,.int .i64 x.1,.int .i64 x.2])
theorem Ep (P:Nat->Prop)(p:Nat)(a:List Doc.Tr)(c:Tc)(w:World)(D:ik w P 13 c (.list p a))(O:0<a.length)(Q:Doc.eu a<=800) :
 Calls Tryz.prog 188 #[.agg #[.string ⟨c.x.toArray⟩,.bool c.bb,.slice c.ao c.m c.cap,.int .i64 c.p]] w fun s E=>s=wB (Doc.count p a)/\Below w.heap.size w E:=by
 have S:=fJ;obtain⟨F,G,rfl,T,U,f⟩:=D.kids;simp only;have d:Below w.heap.size w (w.alloc (.cells #[.string ⟨#[]⟩,.bool true,.slice F a.length G,.int .i64 p] 138)):=ag;have g:=di d
 by_cases t:2<a.length
 ·have b:Hid (Doc.count p a=.error (4,p)):=Doc.Ql t;generalize Doc.count p a=R at *;clear d f;go_enter Tryz.func188,Tryz.ntmps188;go_wp2_with fail;go_quiet (fail);go_wp2_with fail
  go_ret3
  exact⟨ai8,below_drewN g.o _⟩
 ·by_cases e:a.length=1
  ·have b:Hid (Doc.count p a=.ok 1):=Doc.count_one e;have H:((a.length:Int)==1)=true:=akj;generalize Doc.count p a=R at *;clear d f e;go_enter Tryz.func188,Tryz.ntmps188;go_wp2_with fail
   go_ret3
   exact⟨ai8,g.o⟩
  ·have H:((a.length:Int)==1)=false:=aj aO;have u:1<a.length:=aO;have b:=di (Doc.Tt (p:=p) (ks:=a) aO);obtain⟨I,rfl,_,V,i,j⟩:=f 1 u;have v:=j.pos;have y:=j.text;have l:=i.block (d.block I (ai i.x));have m:=l.x;have n:=l.p;simp only[Nat.one_mul,Nat.reduceAdd]at m n;rw[y]at m;rw[v]at n
   have X:(a[1]).text.length<=1000:=by
    have e:=Doc.jl a[1] (List.getElem_mem u);have t:=Doc.Ec a[1];exact aO
   have J:=di (fun W=>FB (a[1]).text W aO);generalize (a[1]).text=x at *;generalize (a[1]).pos=Y at *;generalize Doc.count p a=R at *;clear d f e i j l v y;generalize Doc.digits x=K at *;go_enter Tryz.func188,Tryz.ntmps188;go_wp2_with fail;refine(J.o _).mono ?_;rintro s Z ⟨rfl,rfl⟩;cases K
   ·go_wp2_with fail;go_quiet (fail);go_wp2_with fail
    go_ret3
    exact⟨ai8,below_drewN g.o _⟩
   ·have L:Hid (R=.ok (Doc.nJ x 0)):=b.o;clear m n;go_wp2_with fail
    go_loopw [7] (fun o wr=>∃k:Nat,o=.int .i64 k/\k<=5/\R=.ok (Doc.nJ x k)/\Below w.heap.size w wr) (fun o _=>5-(intOf o).toNat)
    case atStart=>exact⟨0,rfl,aO,L.o,g.o⟩
    case round=>
     obtain⟨k,rfl,hk,z,h⟩:=hrel;have q:=di z;have M:=di h;have N:=h.size;have hcv:=IZ;have A:=di (h.alloc N (.cells #[.int .u8 (48+(k:Int))] 5));clear z h
     by_cases B:k<5
     ·have C:Hid (byteOf (48+(k:Int))=Doc.uH k):=by show _=_;unfold byteOf Doc.uH;congr 1
      cases hq:(x==[byteOf (48+(k:Int))])
      ·have r:Hid ((x==[Doc.uH k])=false):=by show _=_;rw[<-C.o];exact hq
       go_wp2_with fail;go_roundw
       case rel=>exact⟨k+1,bJ,aO,by rw[q.o,Doc.vD B r.o],A.o⟩
       case measure=>exact akL
      ·have r:Hid ((x==[Doc.uH k])=true):=by show _=_;rw[<-C.o];exact hq
       go_wp2_with fail
       go_ret3
       exact⟨by rw[q.o,Doc.yI B r.o];rfl,A.o⟩
     ·go_wp2_with fail
      go_ret3
      exact⟨by rw[q.o,Doc.Sm aO];rfl,M.o⟩
end Go.Proofs.YtbichedkajfmiaaGreatDoor
namespace Doc
theorem Ho {p:Nat}{ks:List Tr}{x:Nat × Nat}(h:count p ks=.error x):x.1=4:=by
 unfold count at h;split at h
 ·cases h
 ·cases h
 ·split at h
  ·repeat' split at h
   all_goals cases h
  ·injection h with h;rw[<-h]
 ·injection h with h;rw[<-h]
end Doc
namespace Go.Proofs.YtbichedkajfmiaaGreatDoor
open Go.RowKit
variable {m n:Nat}{w:World}
theorem Tryz.Sv:(Tryz.prog.info? 172).map (fun i=>(i.zero,i.size,i.bytes))=some (some (.agg #[.int .i64 0,.int .i64 0,.int .i64 0]),3,24):=bL
def mG (a b c:Nat):List Value:=[.int .i64 a,.int .i64 b,.int .i64 c]
theorem VF (w:World)(a b c:Nat)(d:TypeId):∀j u,(mG a b c)[j]?=some u->((w.alloc (.cells #[.int .i64 a,.int .i64 b,.int .i64 c] d)).drew).cell? ((⟨w.heap.size,0,none⟩:Addr).add j)=some u:=by
 intro j u h;show(w.alloc _).cell? _=_
 match j,h with
 | 0,h=>simp[mG,Addr.add]at h ⊢;exact h
 | 1,h=>simp[mG,Addr.add]at h ⊢;exact h
 | 2,h=>simp[mG,Addr.add]at h ⊢;exact h
 | n+3,h=>simp[mG]at h
theorem aaJ (b c d:Nat):∀u∈mG b c d,u.oneCell'=true:=by
 intro u a;simp only[mG,List.mem_cons,List.not_mem_nil,or_false]at a;rcases a with rfl|rfl|rfl<;>rfl
theorem dE.fields {own:Own}{S:Doc.dB}(h:dE w own n m S):∃e a f b g c i d,w.cell? ⟨m,0,none⟩=some (.slice e S.syms.length a)/\w.cell? ⟨m,1,none⟩=some (.slice f S.terms.length b)/\w.cell? ⟨m,2,none⟩=some (.slice g S.held.length c)/\w.cell? ⟨m,3,none⟩=some (.slice i S.levels.length d)/\
 S.syms.length<=a/\a<=2 ^ 63-1/\S.terms.length<=b/\b<=2 ^ 63-1/\S.held.length<=c/\c<=2 ^ 63-1/\S.levels.length<=d/\d<=2 ^ 63-1:=by
 obtain⟨K,j,k⟩:=h.syms;obtain⟨L,l,o⟩:=h.terms;obtain⟨M,p,q⟩:=h.held;obtain⟨N,r,s⟩:=h.levels;obtain⟨t,u,rfl,v,x⟩:=k.form;obtain⟨y,z,rfl,A,B⟩:=o.form;obtain⟨C,D,rfl,E,F⟩:=q.form;obtain⟨G,H,rfl,I,J⟩:=s.form;exact⟨t,u,y,z,C,D,G,H,j,l,p,r,v,x,A,B,E,F,I,J⟩
end Go.Proofs.YtbichedkajfmiaaGreatDoor
namespace Doc
variable {r:List Tr}
def Cr (ks:List Tr):Bool:=match ks with|[.word _ w]=>w==mW|_=>false
theorem R3 {l:Str}{x:Nat × Nat}(h:parse l=.error x):x.1=2\/x.1=3:=by
 unfold parse at h;split at h
 ·split at h
  ·rename_i e p a;injection h with h;rw[<-h];exact zo l 12 _ e p a
  ·split at h
   ·injection h with h;rw[<-h];exact .inl rfl
   ·cases h
 ·injection h with h;rw[<-h];exact .inl rfl
theorem M0 (h:r.length≠1):Cr r=false:=by
 match r,h with
 | [],_=>rfl
 | [a],h=>exact absurd rfl h
 | a::b::l,_=>cases a<;>rfl
theorem MZ (h:r.length=1):Cr r=(!(r[0]' aO).isList&&((r[0]' aO).text==mW)):=by
 match r,h with
 | [.word p w],_=>rfl
 | [.list p r],_=>rfl
end Doc
namespace Go.Proofs.YtbichedkajfmiaaGreatDoor
open Go.RowKit
variable {V v:Value}{W w:World}{l:List Nat}{m n:Nat}{x:List UInt8}
theorem Mi (E:Nat)(l:List UInt8)(w:World)(F:l.length<=1000000) :
 Calls Tryz.prog 38 #[.pointer (some ⟨E,0,none⟩),.string ⟨l.toArray⟩] w fun r G=>r=.returned (.bool (Doc.asks l))/\Below w.heap.size w G:=by
 have Q:=fJ;have s:Hid (Doc.asks l=if 400<l.length then false else match Doc.parse l with|.error _=>false|.ok t=>Doc.Cr t.kids):=rfl;have H:=di (H8 l w F);have I:=di (fun x=>Doc.R3 (l:=l) (x:=x));have J:=di (fun t=>Doc.zy (l:=l) (t:=t));generalize Doc.asks l=f at *;generalize Doc.parse l=K at *
 by_cases u:400<l.length
 ·have b:Hid (f=false):=by show _=_;rw[s.o,if_pos u]
  go_enter Tryz.func38,Tryz.ntmps38;go_wp2_with fail;go_ret;exact⟨dK (by rw[b.o]),af⟩
 ·have g:=s.o;rw[if_neg u]at g;have g:=di g;go_enter Tryz.func38,Tryz.ntmps38;go_wp2_with fail;refine H.o.mono ?_;rintro r j ⟨v,d⟩;have y:=d.size;cases K with
  | error x=>
   obtain⟨c,rfl⟩:=v;have R:=I.o x rfl;have S:((x.1:Int)==0)=false:=aj aO;have b:Hid (f=false):=g.o;have e:=di (d.alloc y (.cells #[.string ⟨c.x.toArray⟩,.bool c.bb,.slice c.ao c.m c.cap,.int .i64 c.p] 138));clear d;go_wp2_with fail;go_ret;exact⟨dK (by rw[b.o]),e.o⟩
  | ok t=>
   obtain⟨c,rfl,k⟩:=v;obtain⟨z,a,rfl,T,U⟩:=J.o t rfl;obtain⟨A,B,rfl,V,W,m⟩:=k.kids;have e:=di (d.alloc y (.cells #[.string ⟨#[]⟩,.bool true,.slice A a.length B,.int .i64 z] 138));have n:Below j.heap.size j (j.alloc (.cells #[.string ⟨#[]⟩,.bool true,.slice A a.length B,.int .i64 z] 138)):=ag;have b:Hid (f=Doc.Cr a):=g.o
   by_cases h:a.length=1
   ·have L:((a.length:Int)==1)=true:=by rw[h];rfl
    have M:0<a.length:=aO;obtain⟨N,rfl,_,X,o,p⟩:=m 0 M;have q:=o.block (n.block N (ai o.x));have C:=q.x;have D:=q.b;simp only[Nat.zero_mul,Nat.zero_add]at C D;rw[p.text]at C;rw[p.isL]at D;have i:Hid (f=(!(a[0]).isList&&((a[0]).text==[99,104,101,99,107,45,115,97,116]))):=by show _=_;rw[b.o,Doc.MZ h];rfl
    generalize (a[0]).isList=O at *;generalize (a[0]).text=P at *;clear m o q p h d n k;cases O
    ·cases hq:(P==[99,104,101,99,107,45,115,97,116])
     ·go_wp2_with fail;go_ret;exact⟨dK (by rw[i.o,hq];rfl),e.o⟩
     ·go_wp2_with fail;go_ret;exact⟨dK (by rw[i.o,hq];rfl),e.o⟩
    ·go_wp2_with fail;go_ret;exact⟨dK (by rw[i.o];rfl),e.o⟩
   ·have L:((a.length:Int)==1)=false:=aj aO;have i:Hid (f=false):=by show _=_;rw[b.o,Doc.M0 h]
    clear m h d n k;go_wp2_with fail;go_ret;exact⟨dK (by rw[i.o]),e.o⟩
structure jF (B:Nat)(wx:World)(x:List UInt8)(s:Nat)(v:Value)(l:List Nat):Prop where
 c0:wx.cell? ⟨B,0,none⟩=some (.string ⟨x.toArray⟩)
 c1:wx.cell? ⟨B,1,none⟩=some v
 c2:wx.cell? ⟨B,2,none⟩=some (.int .i64 s)
 fr:∀o,wx.frozen? ⟨B,o,none⟩=false
 row:wx.ownsRow (B+1) 3 1 v l.length (l.map (fun a:Nat=>Value.int .i64 (a:Int)))
 size:B<wx.heap.size
theorem jF.below (h:jF n w x m v l)(a:Below w.heap.size w W):jF n W x m v l:=by
 have b:=h.size;exact⟨(a.cell (p:=⟨n,0,none⟩) b).trans h.c0,(a.cell (p:=⟨n,1,none⟩) b).trans h.c1,(a.cell (p:=⟨n,2,none⟩) b).trans h.c2,fun o=>(a.frozen (p:=⟨n,o,none⟩) b).trans (h.fr o),ownsRow_below h.row a,Nat.lt_of_lt_of_le b a.size⟩
theorem jF.new (w:World)(x:List UInt8)(a:TypeId):jF w.heap.size (w.alloc (.cells #[.string ⟨x.toArray⟩,.slice none 0 0,.int .i64 0] a)) x 0 (.slice none 0 0) []:=
 ⟨aP,aP,aP,ah6,World.ownsRow_nil _ _ _ _,aP⟩
theorem jF.app {s:Nat}(h:jF n w x s v l)(X:Obj)(a:lH (w.alloc X) W n 1 (n+1) 3 1 v V (l.length+1) (l.map (fun m:Nat=>Value.int .i64 (m:Int))++[.int .i64 (m:Int)])):jF n W x s V (l++[m])/\Below n w W:=by
 have d:=h.size;have c:Below w.heap.size w (w.alloc X):=af.alloc ae X;have b:=h.below c;refine⟨⟨(a.cells 0 aO).trans b.c0,a.cell,(a.cells 2 aO).trans b.c2,fun o=>(a.frozen o).trans (b.fr o),by simpa using a.own,Nat.lt_of_lt_of_le b.size a.size⟩,(c.mono aO).trans a.below⟩
theorem jF.Zz (h:jF n w x m v l)(t:Nat):jF n (w.setCell ⟨n,2,none⟩ (.int .i64 t)) x t v l:=
 ⟨setOther _ _ h.c0 (.inr aP),setOther _ _ h.c1 (.inr aP),World.cell?_setCell_same _ _ _ h.c2,fun o=>by rw[World.frozen?_setCell];exact h.fr o,ownsRow_setCell_below h.row dh _,ajI⟩
theorem Tryz.ZV:(Tryz.prog.info? 174).map (fun i=>(i.zero,i.size,i.bytes))=some (some (.agg #[.string ⟨#[]⟩,.slice none 0 0,.int .i64 0]),3,48):=bL
def lX (x:List UInt8)(v:Value)(s:Nat):List Value:=[dO x,v,.int .i64 s]
theorem Ru (w:World)(x:List UInt8)(a:Option Addr)(m b s:Nat)(c:TypeId)(n:Nat)(d:n=w.heap.size):∀j u,(lX x (.slice a m b) s)[j]?=some u->((w.alloc (.cells #[.string ⟨x.toArray⟩,.slice a m b,.int .i64 s] c)).drew).cell? ((⟨n,0,none⟩:Addr).add j)=some u:=by
 subst d;intro j u h;show(w.alloc _).cell? _=_
 match j,h with
 | 0,h=>simp[lX,dO,Addr.add]at h ⊢;exact h
 | 1,h=>simp[lX,Addr.add]at h ⊢;exact h
 | 2,h=>simp[lX,Addr.add]at h ⊢;exact h
 | n+3,h=>simp[lX]at h
theorem Zt (x:List UInt8)(b:Option Addr)(m c s:Nat):∀u∈lX x (.slice b m c) s,u.oneCell'=true:=by
 intro u a;simp only[lX,List.mem_cons,List.not_mem_nil,or_false]at a;rcases a with rfl|rfl|rfl<;>rfl
theorem jF.ints (h:jF n w x m v l){own:Own}(c:∀b,n<=b->own b=0):eD w own v l:=by
 have d:=vw (xs:=l.map (fun a:Nat=>[Value.int .i64 (a:Int)])) (n:=l.length) (v:=v) (w:=w) (base:=n+1) (e:=3) (sz:=1) (by rw[CR l];exact h.row) aP (by intro x e;obtain⟨a,_,rfl⟩:=List.mem_map.1 e;rfl);obtain⟨f,j,k,o,p,q⟩:=d;refine⟨f,j,k,o,p,fun i hi=>?_⟩;obtain⟨g,r,t,s⟩:=q i hi;refine⟨g,r,c g aO,fun u=>?_⟩;have:=s ahT 0 aO (.int .i64 (l[i]:Int)) aP;simpa using this
end Go.Proofs.YtbichedkajfmiaaGreatDoor
