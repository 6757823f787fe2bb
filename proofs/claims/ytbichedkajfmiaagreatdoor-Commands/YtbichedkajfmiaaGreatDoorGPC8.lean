import Derived.Test.YtbichedkajfmiaaGreatDoorGPC2
import Derived.Test.YtbichedkajfmiaaGreatDoorGPL0
import Derived.Test.YtbichedkajfmiaaGreatDoorC
set_option maxRecDepth 100000
set_option maxHeartbeats 16000000
namespace Doc
variable {g:List Sym}{q:List Term}{s:Str}
theorem Sr (b:List Sym)(a:List Term):leaf b a lV=note a ⟨lV,1,1,0,[]⟩:=by unfold leaf;rw[if_pos rfl]
theorem Pw (b:List Sym)(a:List Term):leaf b a kz=note a ⟨kz,2,1,0,[]⟩:=by unfold leaf;rw[if_neg aR,if_pos rfl]
theorem VJ (a:s≠lV)(b:s≠kz)(h:digits s=true):leaf g q s=note q ⟨s,14,2,0,[]⟩:=by unfold leaf;rw[if_neg a,if_neg b,if_pos h]
theorem VI (b:s≠lV)(c:s≠kz)(h:digits s=false):leaf g q s=match eX g s with|none=>.error 5|some a=>if 0<(gK g a).length then .error 7 else note q ⟨s,13,iN g a,a,[]⟩:=by
 unfold leaf;rw[if_neg b,if_neg c,if_neg (by rw[h];simp)];rfl
end Doc
namespace Go.Proofs.YtbichedkajfmiaaGreatDoor
open Go.RowKit
variable {U W u w:World}{h:Ending}{k m n:Nat}
theorem iT.three {own:Own}{S:Doc.dB}{R:Except (Nat × Nat) (List Doc.Term × Nat)}(b:iT w W own n m S R h):∃c d e:Nat,h=.returned (.tuple #[.int .i64 (c:Int),.agg #[.int .i64 (d:Int),.int .i64 (e:Int)]]):=by
 obtain⟨_,_,a⟩:=b;cases R with
 | ok r=>exact⟨r.2,0,0,a.1⟩
 | error x=>exact⟨0,x.1,x.2,a.1⟩
theorem iT.fb {own:Own}{S:Doc.dB}{R:Except (Nat × Nat) (List Doc.Term × Nat)}(a:iT W u own n m S R h)(b:eB w W k)(c:own k≠n):eB w u k:=by
 obtain⟨_,d,_⟩:=a;exact b.fr' d c
theorem iT.dU {own:Own}{S:Doc.dB}{R:Except (Nat × Nat) (List Doc.Term × Nat)}(i:iT W u (dw own k (n+1)) n m S R h)(j:Fr own (dw own k (n+1)) n w W)(e:w.heap.size<=k)(l:k<W.heap.size)
 (o:∀(own a:Own) (n:Nat) (c:World),Fr own a n c u->c.heap.size<=k->Fr own a n c U) (p:∀(own:Own) (n m:Nat) (S:Doc.dB),dA u own n m S->own k≠0->own k≠n->dA U own n m S):iT w U own n m S R h:=by
 obtain⟨a,f,d⟩:=i;have x:a k=n+1:=ajv;refine⟨dw a k 0,(o _ _ _ _ (j.trans f) e).unbox e,?_⟩;have g:∀b,dA u a n m b->dA U (dw a k 0) n m b:=fun b q=>(p a n m b q aO aO).unbox aO aO;cases R with
 | ok y=>exact⟨d.1,g _ d.2⟩
 | error z=>
  obtain⟨r,s,t,v⟩:=d;exact⟨r,s,t,g _ v⟩
theorem iT.fault {own:Own}{a b:Nat}{S:Doc.dB}(d:Fr own (dw own k (n+1)) n w W)(g:dA W (dw own k (n+1)) n m S)(e:Below W.heap.size W u)(h:w.heap.size<=k)(i:k<W.heap.size)(j:a≠0)
 (l:∀(own f:Own) (n:Nat) (c:World),Fr own f n c u->c.heap.size<=k->Fr own f n c U) (o:∀(own:Own) (n m:Nat) (S:Doc.dB),dA u own n m S->own k≠0->own k≠n->dA U own n m S):iT w U own n m S (.error (a,b)) (.returned (.tuple #[.int .i64 0,.agg #[.int .i64 (a:Nat),.int .i64 (b:Nat)]])):=by
 have p:iT W u (dw own k (n+1)) n m S (.error (a,b)) (.returned (.tuple #[.int .i64 0,.agg #[.int .i64 (a:Nat),.int .i64 (b:Nat)]])):=⟨_,Fr.of_below n d.dJ e,rfl,j,[],by rw[List.append_nil];exact g.below e⟩;exact p.dU d h i l o
theorem iT.drew {own:Own}{S:Doc.dB}{R:Except (Nat × Nat) (List Doc.Term × Nat)}(c:iT w W own n m S R h):iT w W.drew own n m S R h:=by
 obtain⟨d,e,a⟩:=c;have b:Below W.heap.size W W.drew:=af.drew;refine⟨d,e.drew,?_⟩;cases R with
 | ok r=>exact⟨a.1,a.2.below b⟩
 | error x=>
  obtain⟨f,g,i,j⟩:=a;exact⟨f,g,i,j.below b⟩
theorem eB.below (h:eB w W n)(a:Below W.heap.size W u):eB w u n:=by
 have b:=ai h.c0;exact⟨(a.cell (p:=⟨n,0,none⟩) b).trans h.c0,(a.cell (p:=⟨n,1,none⟩) b).trans h.c1,fun j=>(a.frozen (p:=⟨n,j,none⟩) b).trans (h.fr j)⟩
theorem Jd (h l k q fin:Nat)(own:Own)(S:Doc.dB)(x:List UInt8)(w:World)(ho:w.cell? ⟨h,0,none⟩=some (.pointer (some ⟨l,0,none⟩)))(O:dA w own k l S)(P:dH own w)(hk:k≠0)(I:Doc.gP S.syms S.terms)(hx:x.length<=1000000) :
 Calls Tryz.prog 222 #[.pointer (some ⟨h,0,none⟩),.agg #[.int .i64 q,.string ⟨x.toArray⟩,.int .i64 fin]] w fun e j=>iT w j own k l S (Doc.ig q (Doc.leaf S.syms S.terms x)) e:=by
 have hR:=fJ;have hol:=ai ho;obtain⟨a,Q⟩:∃a,(w.alloc (.cells #[.int .i64 q,.string ⟨x.toArray⟩,.int .i64 fin] 129)).alloc (.cells #[.int .i64 0,.int .i64 0] 64)=a:=⟨_,rfl⟩;have B:Below w.heap.size w a:=by rw[<-Q];exact ag.alloc aP _
 have hsz:a.heap.size=w.heap.size+1+1:=by rw[<-Q];simp
 have y:∀d bg bn,((w.alloc (.cells #[.int .i64 q,.string ⟨x.toArray⟩,.int .i64 fin] 129)).alloc (.cells #[.int .i64 0,.int .i64 0] 64)).cell? ⟨d,bg,none⟩=some bn->a.cell? ⟨d,bg,none⟩=some bn:=fun d bg bn m=>by rw[<-Q];exact m
 have b0:=y w.heap.size 0 (.int .i64 q) aP;have b1:=y w.heap.size 1 (.string ⟨x.toArray⟩) aP;have R:eB w a (w.heap.size+1):=⟨y (w.heap.size+1) 0 _ aP,y (w.heap.size+1) 1 _ aP,fun bg=>by rw[<-Q];simp⟩;have J:=di R;have v:Hid (Fr own (dw own (w.heap.size+1) (k+1)) k w a):=Fr.boxed P B aO aO;have z:dA a (dw own (w.heap.size+1) (k+1)) k l S:=O.boxed B (B:=w.heap.size+1) (c:=k+1) aO;have kG:=di z;have o1:=(B.cell (p:=⟨h,0,none⟩) hol).trans ho
 have A:Hid (∀t,t.args=[]->Doc.pz S.syms S.terms S.terms.length t->∀W,Below a.heap.size a W->Calls Tryz.prog 225 #[.pointer (some ⟨h,0,none⟩),.agg #[.int .i64 (Doc.dZ t.op:Nat),.int .i64 t.sym,.int .i64 (Doc.fq t:Nat),.slice none 0 0,.int .i64 t.sort],.int .i64 q] W fun e j=>iT a j (dw own (w.heap.size+1) (k+1)) k l S (Doc.ig q (Doc.note S.terms t)) e):=fun t hta htw W hW=>by
  have m:=Ki h l k q (dw own (w.heap.size+1) (k+1)) S t none 0 W ((hW.cell (p:=⟨h,0,none⟩) (by rw[hsz];show h<_;have:h<w.heap.size:=hol;omega)).trans o1) (z.below hW) (fun d hb=>v.o.dJ d (Nat.le_trans hW.size hb)) hk I htw (by rw[hta];exact⟨none,0,rfl,aP,aX,by intro bB hi;simp at hi⟩) (by rw[hta];simp);rw[hta]at m;exact m.mono (fun e j m=>m.lift v.o.dJ hW)
 have uN:Hid (dw own (w.heap.size+1) (k+1) (w.heap.size+1)≠k):=bR;have hlo:h<w.heap.size:=hol
 by_cases K:x=Doc.lV
 ·subst K;rw[Doc.Sr];have T:Hid (∀W,Below a.heap.size a W->Calls Tryz.prog 225 #[.pointer (some ⟨h,0,none⟩),.agg #[.int .i64 1,.int .i64 0,.int .i64 0,.slice none 0 0,.int .i64 1],.int .i64 q] W fun e j=>iT a j (dw own (w.heap.size+1) (k+1)) k l S (Doc.ig q (Doc.note S.terms ⟨Doc.lV,1,1,0,[]⟩)) e):=A.o ⟨Doc.lV,1,1,0,[]⟩ rfl ⟨aj0,rfl,.bool (.inl rfl) rfl rfl rfl⟩;clear B O z P I y R A;go_enter Tryz.func222,Tryz.ntmps222;exact akZ
 ·by_cases M:x=Doc.kz
  ·subst M;rw[Doc.Pw];have T:Hid (∀W,Below a.heap.size a W->Calls Tryz.prog 225 #[.pointer (some ⟨h,0,none⟩),.agg #[.int .i64 2,.int .i64 0,.int .i64 0,.slice none 0 0,.int .i64 1],.int .i64 q] W fun e j=>iT a j (dw own (w.heap.size+1) (k+1)) k l S (Doc.ig q (Doc.note S.terms ⟨Doc.kz,2,1,0,[]⟩)) e):=A.o ⟨Doc.kz,2,1,0,[]⟩ rfl ⟨aj0,rfl,.bool (.inr rfl) rfl rfl rfl⟩;clear B O z P I y R A;go_enter Tryz.func222,Tryz.ntmps222;exact akZ
  ·have t1:(x==[116,114,117,101])=false:=aj K;have t2:(x==[102,97,108,115,101])=false:=aj M;have HN:=di (De x a hx);cases hd:Doc.digits x with
   | true=>
    rw[Doc.VJ K M hd]
    have T:Hid (∀W,Below a.heap.size a W->Calls Tryz.prog 225 #[.pointer (some ⟨h,0,none⟩),.agg #[.int .i64 3,.int .i64 0,.int .i64 (numOf x:Nat),.slice none 0 0,.int .i64 2],.int .i64 q] W fun e j=>iT a j (dw own (w.heap.size+1) (k+1)) k l S (Doc.ig q (Doc.note S.terms ⟨x,14,2,0,[]⟩)) e):=by
     have m:=A.o ⟨x,14,2,0,[]⟩ rfl ⟨aj0,by simp[Doc.written,Doc.nameOf],.num rfl rfl rfl rfl hd⟩;have X:Doc.fq ⟨x,14,2,0,[]⟩=numOf x:=by rw[xh hd];rfl
     rw[X]at m;exact m
    rw[hd]at HN;clear B O z P I y R A K M hd;generalize numOf x=nx at *;go_enter Tryz.func222,Tryz.ntmps222;go_wp2_with fail;refine HN.o.mono ?_;rintro e w3 ⟨rfl,rfl⟩;exact akZ
   | false=>
    rw[Doc.VI K M hd];have wN:Hid (∀W,Below a.heap.size a W->Calls Tryz.prog 121 #[.pointer (some ⟨l,0,none⟩),.string ⟨x.toArray⟩] W fun e j=>e=.returned (.int .i64 (placeOf (Doc.eX S.syms x)))/\Below W.heap.size W j):=fun W m=>D9 l S.syms S.terms x W (z.book.below m);rw[hd]at HN;have BZ:=di (fun s=>Doc.lK (ss:=S.syms) (w:=x) (s:=s));have agi:=di z.book;have Ia:=di I;clear B O z P I y R K M hd;have Od:Hid (placeOf none=-1/\∀s,placeOf (some s)=(s:Int)):=⟨rfl,fun _=>rfl⟩;obtain⟨Y,hrr⟩:=aJ (Doc.eX S.syms x);rw[hrr]at wN ⊢;have HRR:=di hrr;clear hrr;obtain⟨bq,KN⟩:∃bq,Doc.ig q (match Y with|none=>.error 5|some s=>if 0<(Doc.gK S.syms s).length then .error 7 else Doc.note S.terms ⟨x,13,Doc.iN S.syms s,s,[]⟩)=bq:=⟨_,rfl⟩;rw[KN];have rM:=di KN;clear KN;go_enter Tryz.func222,Tryz.ntmps222;go_wp2_with fail;refine HN.o.mono ?_;rintro e w3 ⟨rfl,hw3⟩;rw[hw3];clear hw3 w3;go_upto_region 8 with fail;clear Q;go_cut [8] (fun bA wx=>bA=.int .i64 (placeOf Y)/\Below a.heap.size a wx)
    case first=>
     go_region_with (go_at_call 121;refine(wN.o _ ah0).mono ?_;rintro e w4 ⟨rfl,G⟩)
     all_goals
      have HE:Hid (Below a.heap.size a w4):=af.drew.trans G;clear G;exact amv
    case rest=>
     obtain⟨rfl,H⟩:=hcut;have Z:=di H;have b0c:=(H.cell (p:=⟨w.heap.size,0,none⟩) aW).trans b0;have o1c:=(H.cell (p:=⟨h,0,none⟩) (by show h<_;omega)).trans o1;cases Y with
     | none=>
      rw[Od.o.1];have hsc:=H.size;clear o1c o1 b1 wN H;go_wp2_with fail;have r:Below a.heap.size a wc:=Z.o;have u:=J.o.below r;have b0d:=(r.cell (p:=⟨w.heap.size,0,none⟩) aW).trans b0;have d0:=u.c0;have d1:=u.c1;have df:=u.fr;obtain⟨U,V,n,o,f,g⟩:=dL d0 d1 (.int .i64 5) (.int .i64 (q:Int));have p:=di (iT.fault (a:=5) (b:=q) v.o kG.o r aO aO aO f g).drew;clear f g r u;go_region
      all_goals
       go_wp2_with fail;exact bodyPost_ret (v:=.tuple #[.int .i64 0,.agg #[.int .i64 5,.int .i64 (q:Int)]]) ah2 rfl (by rw[<-rM.o];exact p.o)
     | some s=>
      rw[Od.o.2];obtain⟨hs,hsn⟩:=BZ.o s HRR.o;obtain⟨aA,lu,hints,hsy⟩:=vk l S.syms S.terms s a agi.o hs;have YN:=di (hsy wc H);obtain⟨_,m1,m2⟩:=gG hints;have X:=zq hs;have e2:=Ee hs;have N:Hid (Doc.ig q (if 0<S.syms[s].args.length then .error 7 else Doc.note S.terms ⟨x,13,S.syms[s].sort,s,[]⟩)=bq):=by show _=_;rw[<-rM.o];simp only[X,e2]
      have HJ2:Hid (S.syms[s].args.length=0->∀W,Below a.heap.size a W->Calls Tryz.prog 225 #[.pointer (some ⟨h,0,none⟩),.agg #[.int .i64 4,.int .i64 (s:Int),.int .i64 0,.slice none 0 0,.int .i64 (S.syms[s].sort:Int)],.int .i64 q] W fun e j=>iT a j (dw own (w.heap.size+1) (k+1)) k l S (Doc.ig q (Doc.note S.terms ⟨x,13,S.syms[s].sort,s,[]⟩)) e):=fun h0=>
       A.o ⟨x,13,S.syms[s].sort,s,[]⟩ rfl ⟨aj0,by simp[Doc.written,Doc.nameOf,Doc.oo hs,hsn],.app rfl hs (by rw[X];simp only[List.map_nil];exact(List.eq_nil_of_length_eq_zero h0).symm) e2.symm⟩
      rw[hsn]at YN;clear hsy hints H A BZ X e2 hsn;obtain⟨so,hso⟩:=aJ (S.syms[s].sort);rw[hso]at YN HJ2 N;obtain⟨L,hL⟩:=aJ (S.syms[s].args.length);rw[hL]at YN HJ2 m1 N;clear hso hL;have hsp:¬((s:Int)<0):=aO;go_wp2_with fail;refine YN.o.mono ?_;rintro e w4 ⟨rfl,G⟩;have hb5:Below a.heap.size a (w4.alloc (.cells #[.string ⟨x.toArray⟩,.slice aA L lu,.int .i64 so] 196)):=(Z.o.trans (G.mono Z.o.size)).alloc (Nat.le_trans Z.o.size G.size) _;have rF:=di hb5;have b0e:=(hb5.cell (p:=⟨w.heap.size,0,none⟩) aW).trans b0;have hs4:=G.size;have hs5:=Z.o.size;clear G hb5
      by_cases hL0:0<L
      ·rw[if_pos hL0]at N;have tl:(0:Int)<(L:Int):=aO;clear hL0;go_upto_region 13 with fail;generalize w4.alloc (.cells #[.string ⟨x.toArray⟩,.slice aA L lu,.int .i64 so] 196)=wa at *;have r:Below a.heap.size a wa:=rF.o;have u:=J.o.below r;have b0d:=(r.cell (p:=⟨w.heap.size,0,none⟩) aW).trans b0;have d0:=u.c0;have d1:=u.c1;have df:=u.fr;obtain⟨U,V,n,o,f,g⟩:=dL d0 d1 (.int .i64 7) (.int .i64 (q:Int));have p:=di (iT.fault (a:=7) (b:=q) v.o kG.o r aO aO aO f g).drew;clear f g r u;go_region
       all_goals
        go_wp2_with fail;exact bodyPost_ret (v:=.tuple #[.int .i64 0,.agg #[.int .i64 7,.int .i64 (q:Int)]]) ah2 rfl (by rw[<-N.o];exact p.o)
      ·rw[if_neg hL0]at N;have abK:L=0:=aO;have HJ3:=di (HJ2.o abK _ rF.o);subst abK;clear hL0 HJ2;go_wp2_with fail;refine HJ3.o.mono ?_;rintro e w5 b;obtain⟨D,i,d,rfl⟩:=b.three;have c:=b.fb J.o uN.o;have E:=c.c0;have F:=c.c1;have cf:=c.fr;obtain⟨U,V,n,o,f,g⟩:=dL E F (.int .i64 (i:Int)) (.int .i64 (d:Int));have p:=di (b.dU v.o aO aO f g);clear b c f g;go_wp2_with fail;exact bodyPost_ret (v:=.tuple #[.int .i64 (D:Int),.agg #[.int .i64 (i:Int),.int .i64 (d:Int)]]) ah2 rfl (by rw[<-N.o];exact p.o)
end Go.Proofs.YtbichedkajfmiaaGreatDoor
namespace Doc
variable {m n:Nat}{s:Str}
def within:Nat->Tr->Prop
 | _,.word _ _=>True
 | 0,.list _ _=>False
 | n+1,.list _ ks=>∀k∈ks,within n k
theorem Et {one:Nat->qW}(d:∀i k j,one i=.ok k j->within m k):∀(f i:Nat) (b:List Tr) (t:Tr) (j:Nat),(∀k∈b,within m k)->eQ one s n f i b=.ok t j->within (m+1) t:=by
 intro f
 induction f with
 | zero=>intro i b t j _ h;cases h
 | succ f e=>
  intro i b t j c h;unfold eQ at h;split at h
  ·cases h
  ·split at h
   ·injection h with g o;subst g;exact c
   ·split at h
    ·cases h
    ·split at h
     ·cases h
     ·rename_i k p l;refine e _ _ _ _ ?_ h;intro x a;rcases List.mem_append.1 a with a|a
      ·exact c x a
      ·rw[List.mem_singleton.1 a];exact d _ _ _ l
theorem Mq (l:Str):∀(n i:Nat) (t:Tr) (j:Nat),tree l n i=.ok t j->within n t:=by
 intro n
 induction n with
 | zero=>
  intro i t j h;unfold tree at h;split at h
  ·cases h
  ·injection h with a b;subst a
   trivial
 | succ n c=>
  intro i t j h;unfold tree at h;split at h
  ·exact Et (fun i k j h=>c i k j h) _ _ _ _ _ (by intro k d;cases d) h
  ·injection h with a b;subst a
   trivial
theorem JF {t:Tr}(h:parse s=.ok t):within 12 t:=by
 unfold parse at h;split at h
 ·split at h
  ·cases h
  ·rename_i b j a;split at h
   ·cases h
   ·injection h with h;subst h;exact Mq s 12 _ _ _ a
 ·cases h
end Doc
namespace Go.Proofs.YtbichedkajfmiaaGreatDoor
open Go.RowKit
variable {I:List Doc.Item}{K l:List Nat}{O o:Own}{V v:Value}{W u w:World}{a:Option Addr}{i k m n:Nat}
def qm (w:World)(own:Own)(v:Value)(its:List Doc.Item):Prop:=fA v its.length (fun g i=>own g=0/\∀h:i<its.length,qZ w g (i*3) its[i])
theorem qm.items {own:Own}(h:qm w own v I):qp w v I:=fA.imp h fun _ _ _ a=>a.2
theorem qZ.of_block {o:Nat}{t:Doc.Item}(h:qZ w n o t)(a:W.heap[n]?=w.heap[n]?):qZ W n o t:=
 ⟨(World.cell?_of_block (w:=w) (a:=⟨n,o,none⟩) a).trans h.pos,(World.cell?_of_block (w:=w) (a:=⟨n,o+1,none⟩) a).trans h.word,(World.cell?_of_block (w:=w) (a:=⟨n,o+2,none⟩) a).trans h.fin⟩
theorem qm.step {w:World}{own:Own}(d:∀b,b<w.heap.size->own b=0->W.heap[b]?=w.heap[b]?/\o b=0){v:Value}{c:List Doc.Item}(h:qm w own v c):qm W o v c:=
 fA.imp h fun g i hi a=>by
  obtain⟨e,f⟩:=d g (ai (a.2 hi).pos) a.1;exact⟨f,fun hi=>(a.2 hi).of_block e⟩
structure iW (w:World)(own:Own)(ob sb:Nat)(its:List Doc.Item):Prop where
 st:w.cell? ⟨ob,0,none⟩=some (.pointer (some ⟨sb,0,none⟩))
 items:∃v,w.cell? ⟨ob,1,none⟩=some v/\qm w own v its
 Vq:own ob=0
 iE:eU w
 g0:∀b,b<2->own b=0
theorem eU.size (h:eU w):2<=w.heap.size:=by
 have a:=h.tab;unfold Lib.TabIs World.var? at a;rw[Tryz.FY]at a;simp only[Option.bind_some]at a;rcases Nat.lt_or_ge 1 w.heap.size with b|b
 ·exact b
 ·rw[Array.getElem?_eq_none b]at a;cases a
theorem iW.lt {own:Own}(h:iW w own n m I):n<w.heap.size:=ai h.st
theorem iW.step {w:World}{own:Own}(h:iW w own n m I)(a:∀b,b<w.heap.size->own b=0->W.heap[b]?=w.heap[b]?/\o b=0):iW W o n m I:=by
 obtain⟨d,e⟩:=a n h.lt h.Vq;obtain⟨v,f,g⟩:=h.items;exact⟨(World.cell?_of_block (w:=w) (a:=⟨n,0,none⟩) d).trans h.st,⟨v,(World.cell?_of_block (w:=w) (a:=⟨n,1,none⟩) d).trans f,g.step a⟩,e,h.iE.ed (fun b c i=>(a b i (h.g0 b c)).1),fun b c=>(a b (by have:=h.iE.size;omega) (h.g0 b c)).2⟩
theorem iW.below {own:Own}(h:iW w own n m I)(a:Below w.heap.size w W):iW W own n m I:=h.step (fun b c d=>⟨a.block b c,d⟩)
theorem iW.fr {own:Own}(h:iW w own n m I)(a:Fr own o k w W)(e:k≠0):iW W o n m I:=h.step (fun b c d=>⟨a.block b c aO,by rw[a.ext b c];exact d⟩)
theorem iW.boxed {own:Own}{B c:Nat}(h:iW w own n m I)(a:Below w.heap.size w W)(f:w.heap.size<=B):iW W (dw own B c) n m I:=
 h.step (fun b d e=>⟨a.block b d,by unfold dw;rw[if_neg aO];exact e⟩)
theorem eD.boxed {own:Own}{B c:Nat}(h:eD w own v l)(a:Below w.heap.size w W)(f:w.heap.size<=B):eD W (dw own B c) v l:=
 h.step (fun b d e=>⟨a.block b d,by unfold dw;rw[if_neg aO];exact e⟩)
structure kE (w wr:World)(own um:Own)(k sb ob:Nat)(its:List Doc.Item)(vi:Value)(ins:List Nat)(S:Doc.dB)(ts:List Doc.Term)(v:Value)(acc:List Nat):Prop where
 fr:Fr own um k w wr
 stack:dA wr um k sb { S with terms:=ts }
 row:wr.ownsRow (w.heap.size+1) 3 1 v acc.length (gX acc)
 mine:∀b,v.ownBlock=some b->um b=k+1
 box:eB w wr w.heap.size
 F9:um w.heap.size=k+1
 ord:iW wr um ob sb its
 ins:eD wr um vi ins
 wf:Doc.gP S.syms ts
 lt:∀a∈acc,a<ts.length
 ext:∃ex,ts=S.terms++ex
 size:w.heap.size<wr.heap.size
theorem kE.start {w:World}{own:Own}{k sb:Nat}{S:Doc.dB}(c:dA w own k sb S)(d:dH own w)(e:iW w own n sb I)(hi:eD w own v l)(f:Doc.gP S.syms S.terms) :
 kE w (w.alloc (.cells #[.int .i64 0,.int .i64 0] 64)) own (dw own w.heap.size (k+1)) k sb n I v l S S.terms (.slice none 0 0) []:=by
 have b:Below w.heap.size w (w.alloc (.cells #[.int .i64 0,.int .i64 0] 64)):=ag;refine⟨Fr.boxed d b ae aP,c.boxed b ae,World.ownsRow_nil _ _ _ _,(by intro h b;simp[Value.ownBlock]at b),⟨aP,aP,fun j=>aP⟩,aiN,e.boxed b ae,hi.boxed b ae,f,(by intro a g;cases g),⟨[],aP⟩,aP⟩
theorem kE.after {wr:World}{own:Own}{S:Doc.dB}{f c:List Doc.Term}(h:kE w wr own o n m k I v l S f V K)(g:n≠0)(a:Fr o O n wr W)(i:dA W O n m { S with terms:=c })(j:Doc.gP S.syms c)(p:∃e,c=f++e) :
 kE w W own O n m k I v l S c V K:=by
 obtain⟨e,rfl⟩:=p;obtain⟨q,r⟩:=h.ext;refine⟨h.fr.trans a,i,a.owns h.row (fun b d=>by rw[h.mine b d];omega),fun b d=>?_,h.box.fr' a (by rw[h.F9];omega),?_,h.ord.fr a g,h.ins.fr a g,j,fun s t=>by have:=h.lt s t;simp;omega,⟨q++e,by rw[r];simp⟩,Nat.lt_of_lt_of_le h.size a.size⟩
 ·rw[a.ext b (h.row.lt b d).2];exact h.mine b d
 ·rw[a.ext _ h.size];exact h.F9
theorem kE.below {wr:World}{own:Own}{S:Doc.dB}{a:List Doc.Term}(h:kE w wr own o n m k I v l S a V K)(c:n≠0)(b:Below wr.heap.size wr W):kE w W own o n m k I v l S a V K:=
 h.after c (Fr.of_below n h.fr.dJ b) (h.stack.below b) h.wf ⟨[],aP⟩
theorem kE.snoc {w wr:World}{own:Own}{k:Nat}{S:Doc.dB}{p:List Doc.Term}{v:Value}(h:kE w wr own o k n m I V l S p v K){a:Nat}(A:a<p.length)(f:Below wr.heap.size wr W){g cap:Nat}
 (s:u.ownsRow (w.heap.size+1) 3 1 (.slice (some ⟨g,0,none⟩) (K.length+1) cap) (K.length+1) (gX K++[.int .i64 (a:Int)])) (i:W.grownBy u v.ownBlock) (D:w.heap.size+1<=g) (B:v.ownBlock=some g\/W.heap.size<=g) :
 kE w u own (dw o g (k+1)) k n m I V l S p (.slice (some ⟨g,0,none⟩) (K.length+1) cap) (K++[a]):=by
 have E:=f.size;have F:=i.size;have q:∀b,b<wr.heap.size->v.ownBlock≠some b->u.heap[b]?=wr.heap[b]?:=fun b c j=>(i.block b aO (fun e=>j e.symm)).trans (f.block b c)
 have t:∀b,b<wr.heap.size->o b≠k+1->u.heap[b]?=wr.heap[b]?/\dw o g (k+1) b=o b:=fun b c d=>by
  have j:v.ownBlock≠some b:=fun e=>d (h.mine b e);refine⟨q b c j,?_⟩;unfold dw;rw[if_neg];intro e;rcases B with x|x
  ·rw[e]at j;exact j x
  ·exact aO
 have G:g<u.heap.size:=(s.lt g rfl).2;have r:u.heap[w.heap.size]?=wr.heap[w.heap.size]?:=q _ h.size (fun e=>by have:=(h.row.lt _ e).1;omega)
 have y:∀b,b<wr.heap.size->o b=0->u.heap[b]?=wr.heap[b]?/\dw o g (k+1) b=0:=fun b c d=>by
  have:=t b c aO;exact⟨this.1,by rw[this.2];exact d⟩
 refine⟨⟨?_,?_,?_,?_,?_,?_,?_⟩,?_,?_,?_,?_,?_,h.ord.step y,h.ins.step y,h.wf,?_,h.ext,?_⟩
 ·exact(i.os.trans f.os).trans h.fr.os
 ·exact(i.tape.trans f.tape).trans h.fr.tape
 ·exact(i.output.trans f.output).trans h.fr.output
 ·have:=h.fr.size;exact aO
 ·intro b c d;have C:b<wr.heap.size:=Nat.lt_of_lt_of_le c h.fr.size;exact(q b C (fun e=>by have:=(h.row.lt b e).1;omega)).trans (h.fr.block b c d)
 ·intro b c;unfold dw;rw[if_neg aO];exact h.fr.ext b c
 ·intro b c;unfold dw;rw[if_neg aO];exact h.fr.fresh b aO
 ·exact h.stack.step (fun b c d=>t b c (by rcases d with d|d<;>rw[d]<;>omega))
 ·rw[En,List.length_append];exact s
 ·intro b c;have:g=b:=aj4;subst this;exact aiN
 ·exact⟨(World.cell?_of_block (w:=wr) (a:=⟨w.heap.size,0,none⟩) r).trans h.box.c0,(World.cell?_of_block (w:=wr) (a:=⟨w.heap.size,1,none⟩) r).trans h.box.c1,fun z=>(World.frozen?_of_block (w:=wr) (a:=⟨w.heap.size,z,none⟩) r).trans (h.box.fr z)⟩
 ·unfold dw;rw[if_neg aO];exact h.F9
 ·intro b c;rcases List.mem_append.1 c with c|c
  ·exact h.lt b c
  ·rw[List.mem_singleton.1 c];exact A
 ·exact aO
def PAP (w w':World)(own:Own)(k sb:Nat)(S:Doc.dB)(R:Except (Nat × Nat) (List Doc.Term × List Nat))(e:Ending):Prop:=
 ∃own',Fr own own' k w w'/\match R with
  | .ok r=>(∃A p,e=.returned (.tuple #[.slice A r.2.length p,.agg #[.int .i64 0,.int .i64 0]])/\eD w' own' (.slice A r.2.length p) r.2)/\dA w' own' k sb { S with terms:=r.1 }/\Doc.gP S.syms r.1/\(∀a∈r.2,a<r.1.length)/\(∃ex,r.1=S.terms++ex)/\r.2.length<=1000
  | .error x=>e=.returned (.tuple #[.slice none 0 0,.agg #[.int .i64 (x.1:Nat),.int .i64 (x.2:Nat)]])/\x.1≠0/\∃ex,dA w' own' k sb { S with terms:=S.terms++ex }
theorem RU (w:World)(B:Nat)(c d:Value):∀b,b≠B->((w.setCell ⟨B,0,none⟩ c).setCell ⟨B,1,none⟩ d).heap[b]?=w.heap[b]?:=fun b a=>by
 rw[aC a,aC a]
theorem kE.done {wr:World}{own:Own}{S:Doc.dB}{s:List Doc.Term}(h:kE w wr own o n m k I v l S s (.slice a K.length i) K)
 (C:∀(own t:Own) (n:Nat) (q:World),Fr own t n q wr->q.heap.size<=w.heap.size->Fr own t n q W) (u:∀b,b≠w.heap.size->W.heap[b]?=wr.heap[b]?) (D:K.length<=1000):PAP w W own n m S (.ok (s,K)) (.returned (.tuple #[.slice a K.length i,.agg #[.int .i64 0,.int .i64 0]])):=by
 have c:=C _ _ _ _ h.fr ae;obtain⟨f,g⟩:∃f:Own,f=fun b=>if (Value.slice a K.length i).ownBlock=some b\/b=w.heap.size then 0 else o b:=⟨_,rfl⟩
 have x:∀b,o b=0\/o b=n->b≠w.heap.size/\f b=o b:=fun b j=>by
  have y:b≠w.heap.size:=fun e=>by rw[e,h.F9]at j;omega
  refine⟨y,?_⟩;rw[g];simp only;rw[if_neg];rintro (e|e)
  ·have:=h.mine b e;exact aO
  ·exact y e
 refine⟨f,⟨c.os,c.tape,c.output,c.size,c.block,?_,?_⟩,⟨a,i,rfl,?_⟩,h.stack.step (fun b _ j=>⟨u b (x b j).1,(x b j).2⟩),h.wf,h.lt,h.ext,D⟩
 ·intro b p;rw[g];simp only;rw[if_neg]
  ·exact h.fr.ext b p
  ·rintro (e|e)
   ·have:=(h.row.lt b e).1;exact aO
   ·exact aO
 ·intro b p;rw[g];simp only;split
  ·rfl
  ·exact c.fresh b p
 ·have z:=h.row;rw[<-Bc]at z;have E:=vw z aP (by intro P F;obtain⟨Q,_,rfl⟩:=List.mem_map.1 F;rfl);obtain⟨R,T,G,H,J,L⟩:=E;injection G with M _ N
  subst M N;refine⟨a,i,rfl,H,J,fun d hi=>?_⟩;obtain⟨r,A,p,O⟩:=L d hi;refine⟨r,A,?_,fun U=>?_⟩
  ·rw[g];simp only;rw[if_pos (.inl (by rw[A];rfl))]
  ·have B:=O ahT 0 aO (.int .i64 (K[d]:Int)) aP;rw[show d*1+0=d by omega]at B;exact(World.cell?_of_block (w:=wr) (a:=⟨r,d,none⟩) (u r aO)).trans B
theorem IQ (s e k i n p0:Nat)(u:List Doc.Item)(own:Own)(S:Doc.dB)(a:List Doc.Tr)(G:Option Addr)(H:Nat)(w:World)(Y:iW w own s e u)(Z:dA w own k e S)(hfr:dH own w)(hk:k≠0)(hw:Doc.gP S.syms S.terms)(I:eD w own (.slice G a.length H) (Doc.places a (n+1)))(hlies:Doc.kF u n (.list p0 a))(hok:Doc.oks a)(hwd:Doc.eu a<=800)(h1:1<=a.length)(hn:a.length<=1000)
 (ih:∀(t:Doc.Tr) (bt:Nat) (own:Own) (S:Doc.dB) (w:World),t∈a->iW w own s e u->dA w own k e S->dH own w->Doc.gP S.syms S.terms->Doc.kF u bt t->t.ok->t.width<=800->
  Calls Tryz.prog 173 #[.pointer (some ⟨s,0,none⟩),.int .i64 (bt:Nat)] w fun y J=>iT w J own k e S (Doc.term S.syms i t S.terms) y) :
 Calls Tryz.prog 223 #[.pointer (some ⟨s,0,none⟩),.slice G a.length H] w fun y J=>PAP w J own k e S (Doc.gI (Doc.term S.syms i) (a.drop 1) S.terms []) y:=by
 obtain⟨i0,hi,hz0,hz1,hz2⟩:=info_parts Tryz.mI;have wJ:=di (kE.start (k:=k) Z hfr Y I hw);obtain⟨oU,k1,k2⟩:=gG I.ints;clear oU;have rz:=di (Doc.kQ hok);have QI:=di (fun t h=>Nat.le_trans (Doc.jl (ks:=a) t h) hwd);have Ig:=di ih;have I6:=di (fun z (h:z<a.length)=>hlies.kid h);have Ug:=di (fun z (h:z<a.length)=>Doc.kV (ks:=a) (b:=n+1) (n:=z) h);have hpl:=Doc.zx a (n+1);rw[hpl]at k1;obtain⟨p,K⟩:=aJ (Doc.gI (Doc.term S.syms i) (a.drop 1) S.terms []);rw[K];have HRA:=di K;clear K Y Z hfr hw I hlies hok hwd ih hpl;go_enter Tryz.func223,Tryz.ntmps223;go_wp2_with fail
 go_loopw [6,7] (fun bg L wr=>∃(j:Nat) (c:List Nat) (l:List Doc.Term) (M:Own),L=.int .i64 j/\1<=j/\j<=a.length/\c.length<=j/\kE w wr own M k e s u (.slice G a.length H) (Doc.places a (n+1)) S l bg c/\Doc.gI (Doc.term S.syms i) (a.drop j) l c=p) (fun _ L _=>a.length-(intOf L).toNat)
 case atStart=>exact⟨1,[],S.terms,_,rfl,aO,h1,aP,wJ.o,HRA.o⟩
 case round=>
  obtain⟨j,c,l,M,rfl,hj1,hj2,hacc,b,hloop⟩:=hrel;have m:=di b;have N:=di hloop;obtain⟨av,xZ,rfl,hv1,hv2⟩:=fM b.row;clear hloop
  by_cases O:j<a.length
  ·have Ar:=Ug.o j O;obtain⟨bn,rfl,d1⟩:=eY b.ins.ints j _ Ar;have A:a[j]∈a:=aP;have P:=rz.o a[j] A;have PN:=QI.o a[j] A;have LW:=di (Ig.o a[j] (Doc.start a (n+1) j) M { S with terms:=l } wr A b.ord b.stack b.fr.dJ b.wf (I6.o j O) P aO);have Ah:=di (fun r=>Doc.rU S.syms i a[j] l r b.wf P aO);have rO:=di (Doc.uw (one:=Doc.term S.syms i) O l c);generalize Doc.start a (n+1) j=bj at *;clear b Ar A P;generalize a[j]=tj at *;go_wp2_with fail;refine LW.o.mono ?_;rintro y d ⟨zB,o,B⟩;cases hT:Doc.term S.syms i tj l with
   | error Q=>
    simp only[hT]at B;obtain⟨rfl,hne,ex,v⟩:=B;have hen:((Q.1:Int) !=0)=true:=aZ;have HRR:Hid (p=.error Q):=by show _=_;rw[<-N.o,rO.o,hT]
    have hsz2:=Nat.lt_of_lt_of_le m.o.size o.size;have hbx:=m.o.box.fr' o (by rw[m.o.F9];omega);have Yp:zB w.heap.size=k+1:=by rw[o.ext _ m.o.size];exact m.o.F9
    have C:=di Yp;have rQ:=di o;have jN:=di v;obtain⟨f,g⟩:=Q;simp only at hen hne;clear hT o v Yp;go_upto_region 7 with fail
    have q:Below d.heap.size d (d.alloc (.cells #[.int .i64 (f:Nat),.int .i64 (g:Nat)] 64)):=ag;have f0:(d.alloc (.cells #[.int .i64 (f:Nat),.int .i64 (g:Nat)] 64)).cell? ⟨d.heap.size,0,none⟩=some (.int .i64 (f:Nat)):=aP;have f1:(d.alloc (.cells #[.int .i64 (f:Nat),.int .i64 (g:Nat)] 64)).cell? ⟨d.heap.size,1,none⟩=some (.int .i64 (g:Nat)):=aP;have D:=hbx.below q;have uh:=di q;clear q;generalize d.alloc (.cells #[.int .i64 (f:Nat),.int .i64 (g:Nat)] 64)=wa at *;have R:=D.c0;have T:=D.c1;have cf:=D.fr;obtain⟨wz,hwz,U,V,x,E⟩:=dL R T (.int .i64 (f:Int)) (.int .i64 (g:Int))
    have W:Hid (PAP w wz.drew own k e S (.error (f,g)) (.returned (.tuple #[.slice none 0 0,.agg #[.int .i64 (f:Nat),.int .i64 (g:Nat)]]))):=by
     obtain⟨Te,KH⟩:=m.o.ext;have hs:=(E zB k e _ (jN.o.below uh.o) akw akw).unbox akw akw;have hf:=((x _ _ _ _ ((m.o.fr.trans rQ.o).trans (Fr.of_below k rQ.o.dJ uh.o)) ae).unbox (B:=w.heap.size) ae).drew;refine⟨_,hf,rfl,hne,Te++ex,?_⟩;have h:=hs.below af.drew;simp only[KH,List.append_assoc]at h;exact h
    clear x E hbx D;go_region
    all_goals
     go_wp2_with fail;exact bodyPost_ret (v:=.tuple #[.slice none 0 0,.agg #[.int .i64 (f:Nat),.int .i64 (g:Nat)]]) akK rfl (by rw[HRR.o];exact W.o)
   | ok r=>
    simp only[hT]at B;obtain⟨rfl,v⟩:=B;have F:=Ah.o r hT;have q:Below d.heap.size d (d.alloc (.cells #[.int .i64 0,.int .i64 0] 64)):=ag;have X:=di ((m.o.after hk o v F.wf F.ext).below hk q);have rC:=di F.lt;have jO:Hid (Doc.gI (Doc.term S.syms i) (a.drop (j+1)) r.1 (c++[r.2])=p):=by have h:=N.o;rw[rO.o,hT]at h;exact h
    have kH:=di X.o.row;have hal:c.length<=1000:=aO;have DI:=X.o.size;simp only[World.size_alloc]at DI;clear hT o v F q;go_wp2_with (at_builtin;refine dD rfl (.tmp 29) (.tmp 31) 57 rfl (w.heap.size+1) 3 i0 (.int .i64 0) 1 8 Tryz.underlying57 hi hz0 hz1 hz2 rfl aR (.slice av c.length xZ) c.length (gX c) rfl ajP ⟨d.heap.size+1,0,none⟩ 1 [.int .i64 (r.2:Int)] rfl rfl (by exact sG _ _ _ _ aP) bX aX aO aQ ?_;intro ga eZ w3 hown' hgrow hg1 hg2);have nV:=di (X.o.snoc rC.o ag hown' hgrow hg1 hg2);clear hown' hgrow hg1 hg2;go_wp2_with fail;go_roundw
    case rel=>exact⟨j+1,c++[r.2],r.1,_,bJ,aO,aO,aQ,nV.o,jO.o⟩
    case measure=>exact akL
  ·have LM:Hid (p=.ok (l,c)):=by
    show _=_;rw[<-N.o,List.drop_eq_nil_of_le aO];rfl
   have R:=b.box.c0;have T:=b.box.c1;have cf:=b.box.fr;obtain⟨wz,hwz,U,V,x,E⟩:=dL R T (.int .i64 0) (.int .i64 0);have W:=di (b.done x (by rw[<-hwz];exact RU _ _ _ _) aO);clear x E b;go_wp2_with fail;exact bodyPost_ret (v:=.tuple #[.slice av c.length xZ,.agg #[.int .i64 0,.int .i64 0]]) akK rfl (by rw[LM.o];exact W.o)
end Go.Proofs.YtbichedkajfmiaaGreatDoor
namespace Doc
variable {g:List Sym}{l:List Nat}{m n:Nat}{q:List Term}
theorem SY:∀f∈forms,f.sort=0\/f.sort=1\/f.sort=2:=aR
theorem Bu {f:Form}(b:f∈forms){c:List Nat}{s:Nat}(h:fits q f c=some s)(d:∀a∈c,dF q a=1\/dF q a=2\/dF q a=3):s=1\/s=2\/s=3:=by
 have g:=jr h;have e:=nQ f b;unfold fits at h;split at h
 ·cases h
 ·split at h
  ·cases h
  ·split at h
   ·cases h
   ·split at h
    ·cases h
    ·split at h
     ·injection h with h;subst h;unfold Form.want;split
      ·exact d _ (sD aO)
      ·have:f.args<=2:=e.2.2.2;exact aO
     ·injection h with h;subst h;have:=SY f b;exact aO
theorem Nq (h:gP g q):∀(k:Nat),k<q.length->dF q k=1\/dF q k=2\/dF q k=3:=by
 intro k
 induction k using Nat.strongRecOn with
 | ind k i=>
  intro d;have b:=h.terms k d;have j:dF q k=q[k].sort:=by unfold dF;rw[aD d]
  rw[j];rcases b.made with ⟨_,_,a,_⟩|⟨_,_,a,_,_⟩|⟨_,e,_,a⟩|⟨n,l,_,_,m,_,_⟩
  ·exact .inl a
  ·exact .inr (.inl a)
  ·rw[a];unfold iN;rw[aD e];exact(h.syms _ (List.getElem_mem e)).sort
  ·exact Bu l m (fun c f=>i c (b.args c f) (by have:=b.args c f;omega))
theorem Pb {e:Type}(a:Term->Except Nat e)(b:List Term)(c:Nat)(d:List Nat):iO a b c d=match iO Except.ok b c d with|.error f=>.error f|.ok t=>a t:=by
 unfold iO;split
 ·rfl
 ·split
  ·split
   ·rfl
   ·split<;>rfl
  ·rfl
theorem Sa (h:iO (Except.ok:Term->Except Nat Term) q n l=.error m):m≠0:=by
 unfold iO at h;split at h
 ·exact ajA
 ·split at h
  ·split at h
   ·cases h
   ·split at h
    ·cases h
    ·exact ajA
  ·cases h
theorem MQ {w:Str}(h:ji w≠0):5<=ji w/\ji w<=19:=by
 have a:=GQ h;have:∀w∈fG,5<=ji w/\ji w<=19:=aR;exact this w a
end Doc
namespace Go.Proofs.YtbichedkajfmiaaGreatDoor
open Go.RowKit
variable {l:List Nat}{m n:Nat}{x:List UInt8}
theorem Xb (b:List Doc.Sym)(a:List Doc.Term)(s:Nat)(c:List Nat):Doc.applied b a s c=match lC b a s c with|.error e=>.error e|.ok t=>Doc.note a t:=by
 unfold Doc.applied lC;split
 ·rfl
 ·split<;>rfl
theorem Xd {a:List Doc.Sym}{b:List Doc.Term}(h:lC a b n l=.error m):m≠0:=by
 unfold lC at h;split at h
 ·exact ajA
 ·split at h
  ·exact ajA
  ·cases h
theorem aae {b:List Doc.Sym}{a:List Doc.Term}{t:Doc.Term}(c:n<b.length)(d:∀e∈l,e<a.length)(h:lC b a n l=.ok t):Doc.pz b a a.length t/\t.args=l:=by
 unfold lC at h;split at h
 ·cases h
 ·split at h
  ·cases h
  ·rename_i f;injection h with h;subst h;exact⟨⟨d,by simp[Doc.nameOf],.app rfl c ajB rfl⟩,rfl⟩
theorem Vu {c:List Doc.Sym}{a:List Doc.Term}{t:Doc.Term}(e:Doc.gP c a)(f:Doc.ji x≠0)(d:∀b∈l,b<a.length)(h:Doc.iO Except.ok a (Doc.ji x) l=.ok t):Doc.pz c a a.length t/\t.args.length<=4:=by
 rw[<-Doc.JL a l (fun b g=>Doc.Nq e b (d b g)) x ((Doc.uR x).2 f)]at h;exact Doc.MN d Doc.forms (fun j i=>i) h
theorem R9 {c:List Doc.Sym}{a:List Doc.Term}(d:Doc.gP c a)(e:Doc.ji x≠0)(f:∀b∈l,b<a.length):Doc.l8 a x l=match Doc.iO Except.ok a (Doc.ji x) l with|.error g=>.error g|.ok t=>Doc.note a t:=by
 have h:Doc.l8 a x l=Doc.jA (Doc.note a) a x l:=Doc.R7 a x l Doc.forms;rw[h,Doc.JL a l (fun b i=>Doc.Nq d b (f b i)) x ((Doc.uR x).2 e),Doc.Pb]
end Go.Proofs.YtbichedkajfmiaaGreatDoor
