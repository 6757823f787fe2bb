import Derived.Test.YtbichedkajfmiaaGreatDoorGDoc8
import Derived.Test.YtbichedkajfmiaaGreatDoorGPC12
import Derived.Test.YtbichedkajfmiaaGreatDoorC
set_option maxRecDepth 100000
set_option maxHeartbeats 16000000
namespace Go.Proofs.YtbichedkajfmiaaGreatDoor
open Go.RowKit
variable {A:List Doc.Tr}{U W u w:World}{Y:Doc.Tr}{h:Ending}{k m n:Nat}{x:List UInt8}
theorem ER {p:Nat}{ks:List Doc.Tr}{x:Nat × Nat}(h:countP p ks=.error x):x.1≠0:=by
 unfold countP at h;split at h
 ·injection h with h;subst h;exact aP
 ·split at h
  ·cases h
  ·split at h
   ·cases h
   ·split at h
    ·cases h
    ·injection h with h;subst h;exact aP
theorem MR (x:List UInt8):numOf x<100000000:=by
 cases h:Doc.digits x
 ·rw[vV h];exact aO
 ·rw[xh h];exact Gr h
theorem countP_le {p:Nat}{ks:List Doc.Tr}{n:Nat}(h:countP p ks=.ok n):n<=1000000000:=by
 unfold countP at h;split at h
 ·cases h
 ·split at h
  ·exact ajA
  ·split at h
   ·exact ajA
   ·split at h
    ·injection h with h;have:=MR (by assumption:Doc.Tr).text;exact aO
    ·cases h
theorem Tz (v e p k:Nat)(own:Own)(G:List Doc.Item)(d:List Doc.Tr)(S:Doc.dB)(w:World)(O:gQ w own v e G p d)(P:dA w own k e S)(Q:dH own w)(T:k≠0)(U:Doc.fQ S)(V:Doc.eu d<=800) :
 Calls Tryz.prog 83 #[.pointer (some ⟨v,0,none⟩)] w fun y w'=>gF w w' own k e S (match countP p d with|.error x=>.error x|.ok n=>if n+S.levels.length<=4 then .ok (dB.lv S n) else .error (9,p)) y:=by
 obtain⟨b,W⟩:∃b,w.alloc (.cells #[.int .i64 0,.int .i64 0] 64)=b:=⟨_,rfl⟩;obtain⟨K,z⟩:=eB.start w;rw[W]at K z;have hsz:b.heap.size=w.heap.size+1:=by rw[<-W];simp
 have H:=di K;have q:Hid (Fr own (dw own w.heap.size (k+1)) k w b):=Fr.boxed Q z ae aO;have X:Hid (dA b (dw own w.heap.size (k+1)) k e S):=P.boxed z ae;have L:Hid (gQ b (dw own w.heap.size (k+1)) v e G p d):=O.boxed z ae;have h:=di (Hq v e p _ G d b L.o V);have I:Hid (dw own w.heap.size (k+1) w.heap.size≠k):=bR;have HW:=di U;have uf:=di (fun x=>ER (p:=p) (ks:=d) (x:=x));have uL:=di (fun n=>countP_le (p:=p) (ks:=d) (n:=n));clear O P Q K z U V;obtain⟨R,M⟩:∃R,(match countP p d with|.error x=>Except.error x|.ok n=>if n+S.levels.length<=4 then .ok (dB.lv S n) else .error (9,p))=R:=⟨_,rfl⟩;rw[M];have s:=di M;clear M;cases i:countP p d with
 | error x=>
  have Y:=uf.o x i;rw[i]at h s;have t:Hid (R=.error x):=s.o.symm;unfold BC at h;obtain⟨f,j⟩:=x;simp only at Y h;have hen:((f:Int) !=0)=true:=aZ;clear i s;go_enter Tryz.func83,Tryz.ntmps83;go_wp2_with fail;refine h.o.mono ?_;rintro y g ⟨rfl,r⟩;have l:Below b.heap.size b (g.alloc (.cells #[.int .i64 (f:Int),.int .i64 (j:Int)] 64)):=r.alloc r.size _;have f0:(g.alloc (.cells #[.int .i64 (f:Int),.int .i64 (j:Int)] 64)).cell? ⟨g.heap.size,0,none⟩=some (.int .i64 (f:Int)):=aP;have f1:(g.alloc (.cells #[.int .i64 (f:Int),.int .i64 (j:Int)] 64)).cell? ⟨g.heap.size,1,none⟩=some (.int .i64 (j:Int)):=aP;clear r;go_upto_region 2 with fail
  generalize g.alloc (.cells #[.int .i64 (f:Int),.int .i64 (j:Int)] 64)=wa at *;have c:=gF.fault (a:=f) (b:=j) q.o.dJ X.o l Y;have a:=c.fb H.o I.o;have A:=a.c0;have B:=a.c1;have Z:=a.fr;obtain⟨wz,hwz,C,D,m,o⟩:=dL A B (.int .i64 (f:Int)) (.int .i64 (j:Int));have E:=di (c.dU q.o ae aO m o);clear c a m o l;go_wp2_with fail;exact bodyPost_ret (v:=.agg #[.int .i64 (f:Int),.int .i64 (j:Int)]) ajb rfl aiS
 | ok n=>
  have hn:=uL.o n i;rw[i]at h s;have t:Hid (R=if n+S.levels.length<=4 then .ok (dB.lv S n) else .error (9,p)):=s.o.symm;unfold BC at h;simp only at h;clear i s;go_enter Tryz.func83,Tryz.ntmps83;go_wp2_with fail;refine h.o.mono ?_;rintro y g ⟨rfl,r⟩;have l:Below b.heap.size b (g.alloc (.cells #[.int .i64 0,.int .i64 0] 64)):=r.alloc r.size _;have oL:=di l;have o0:=(L.o.ord.below l).st;have hfr2:dH (dw own w.heap.size (k+1)) (g.alloc (.cells #[.int .i64 0,.int .i64 0] 64)):=fun bg i=>q.o.dJ bg (Nat.le_trans l.size i);have HPU:=di (Xm e k n _ S _ (X.o.below l) hfr2 T HW.o.rY hn);clear r l hfr2;go_wp2_with fail;refine HPU.o.mono ?_;rintro y w3 ⟨rfl,F⟩
  by_cases u:n+S.levels.length<=4
  ·rw[if_pos u]at F t;rw[decide_eq_true u];have c:=F.cpp (S:=S) q.o.dJ oL.o;have a:=c.fb H.o I.o;have A:=a.c0;have B:=a.c1;have Z:=a.fr;obtain⟨wz,hwz,C,D,m,o⟩:=dL A B (.int .i64 0) (.int .i64 0);have E:=di (c.dU q.o ae aO m o);clear F c a m o o0 u;go_wp2_with fail;exact bodyPost_ret (v:=.agg #[.int .i64 0,.int .i64 0]) ajb rfl aiS
  ·rw[if_neg u]at F t;rw[decide_eq_false u];obtain⟨mM,hf3,EF⟩:=F;have J:=(Fr.of_below k q.o.dJ oL.o).trans hf3;have L8:=di J;have nV:=di EF;have y9:=di (iV v e p 9 mM G d w3 (L.o.fr J T));have FU:=H.o.fr' J I.o;clear hf3 J EF o0 u;go_wp2_with fail;refine y9.o.mono ?_;rintro y w4 ⟨rfl,N⟩;have c:gF b w4 (dw own w.heap.size (k+1)) k e S (.error (9,p)) (.returned (.agg #[.int .i64 ((9:Nat):Int),.int .i64 (p:Nat)])):=⟨mM,L8.o.trans (Fr.of_below k L8.o.dJ N),rfl,aP,nV.o.below N⟩;have a:=c.fb H.o I.o;have A:=a.c0;have B:=a.c1;have Z:=a.fr;obtain⟨wz,hwz,C,D,m,o⟩:=dL A B (.int .i64 9) (.int .i64 (p:Int));have E:=di (c.dU q.o ae aO m o);clear c a m o N FU;go_wp2_with fail;exact bodyPost_ret (v:=.agg #[.int .i64 9,.int .i64 (p:Int)]) ajb rfl aiS
theorem W9 (v e p k:Nat)(own:Own)(G:List Doc.Item)(d:List Doc.Tr)(S:Doc.dB)(w:World)(O:gQ w own v e G p d)(P:dA w own k e S)(Q:dH own w)(T:k≠0)(U:Doc.fQ S)(V:Doc.eu d<=800) :
 Calls Tryz.prog 84 #[.pointer (some ⟨v,0,none⟩)] w fun y w'=>gF w w' own k e S (match countP p d with|.error x=>.error x|.ok n=>if n<=S.levels.length then .ok (xM n S) else .error (10,p)) y:=by
 obtain⟨b,W⟩:∃b,w.alloc (.cells #[.int .i64 0,.int .i64 0] 64)=b:=⟨_,rfl⟩;obtain⟨K,z⟩:=eB.start w;rw[W]at K z;have hsz:b.heap.size=w.heap.size+1:=by rw[<-W];simp
 have H:=di K;have q:Hid (Fr own (dw own w.heap.size (k+1)) k w b):=Fr.boxed Q z ae aO;have X:Hid (dA b (dw own w.heap.size (k+1)) k e S):=P.boxed z ae;have L:Hid (gQ b (dw own w.heap.size (k+1)) v e G p d):=O.boxed z ae;have h:=di (Hq v e p _ G d b L.o V);have I:Hid (dw own w.heap.size (k+1) w.heap.size≠k):=bR;have HW:=di U;have uf:=di (fun x=>ER (p:=p) (ks:=d) (x:=x));have uL:=di (fun n=>countP_le (p:=p) (ks:=d) (n:=n));clear O P Q K z U V;obtain⟨R,M⟩:∃R,(match countP p d with|.error x=>Except.error x|.ok n=>if n<=S.levels.length then .ok (xM n S) else .error (10,p))=R:=⟨_,rfl⟩;rw[M];have s:=di M;clear M;cases i:countP p d with
 | error x=>
  have Y:=uf.o x i;rw[i]at h s;have t:Hid (R=.error x):=s.o.symm;unfold BC at h;obtain⟨f,j⟩:=x;simp only at Y h;have hen:((f:Int) !=0)=true:=aZ;clear i s;go_enter Tryz.func84,Tryz.ntmps84;go_wp2_with fail;refine h.o.mono ?_;rintro y g ⟨rfl,r⟩;have l:Below b.heap.size b (g.alloc (.cells #[.int .i64 (f:Int),.int .i64 (j:Int)] 64)):=r.alloc r.size _;have f0:(g.alloc (.cells #[.int .i64 (f:Int),.int .i64 (j:Int)] 64)).cell? ⟨g.heap.size,0,none⟩=some (.int .i64 (f:Int)):=aP;have f1:(g.alloc (.cells #[.int .i64 (f:Int),.int .i64 (j:Int)] 64)).cell? ⟨g.heap.size,1,none⟩=some (.int .i64 (j:Int)):=aP;clear r;go_upto_region 2 with fail
  generalize g.alloc (.cells #[.int .i64 (f:Int),.int .i64 (j:Int)] 64)=wa at *;have c:=gF.fault (a:=f) (b:=j) q.o.dJ X.o l Y;have a:=c.fb H.o I.o;have A:=a.c0;have B:=a.c1;have Z:=a.fr;obtain⟨wz,hwz,C,D,m,o⟩:=dL A B (.int .i64 (f:Int)) (.int .i64 (j:Int));have E:=di (c.dU q.o ae aO m o);clear c a m o l;go_wp2_with fail;exact bodyPost_ret (v:=.agg #[.int .i64 (f:Int),.int .i64 (j:Int)]) aja rfl aiS
 | ok n=>
  have hn:=uL.o n i;rw[i]at h s;have t:Hid (R=if n<=S.levels.length then .ok (xM n S) else .error (10,p)):=s.o.symm;unfold BC at h;simp only at h;clear i s;go_enter Tryz.func84,Tryz.ntmps84;go_wp2_with fail;refine h.o.mono ?_;rintro y g ⟨rfl,r⟩;have l:Below b.heap.size b (g.alloc (.cells #[.int .i64 0,.int .i64 0] 64)):=r.alloc r.size _;have oL:=di l;have o0:=(L.o.ord.below l).st;have hfr2:dH (dw own w.heap.size (k+1)) (g.alloc (.cells #[.int .i64 0,.int .i64 0] 64)):=fun bg i=>q.o.dJ bg (Nat.le_trans l.size i);have HPU:=di (aam e k n _ S _ (X.o.below l) hfr2 T HW.o hn);clear r l hfr2;go_wp2_with fail;refine HPU.o.mono ?_;rintro y w3 ⟨rfl,F⟩
  by_cases u:n<=S.levels.length
  ·rw[if_pos u]at F t;rw[decide_eq_true u];have c:=F.cpp (S:=S) q.o.dJ oL.o;have a:=c.fb H.o I.o;have A:=a.c0;have B:=a.c1;have Z:=a.fr;obtain⟨wz,hwz,C,D,m,o⟩:=dL A B (.int .i64 0) (.int .i64 0);have E:=di (c.dU q.o ae aO m o);clear F c a m o o0 u;go_wp2_with fail;exact bodyPost_ret (v:=.agg #[.int .i64 0,.int .i64 0]) aja rfl aiS
  ·rw[if_neg u]at F t;rw[decide_eq_false u];obtain⟨mM,hf3,EF⟩:=F;have J:=(Fr.of_below k q.o.dJ oL.o).trans hf3;have L8:=di J;have nV:=di EF;have y9:=di (iV v e p 10 mM G d w3 (L.o.fr J T));have FU:=H.o.fr' J I.o;clear hf3 J EF o0 u;go_wp2_with fail;refine y9.o.mono ?_;rintro y w4 ⟨rfl,N⟩;have c:gF b w4 (dw own w.heap.size (k+1)) k e S (.error (10,p)) (.returned (.agg #[.int .i64 ((10:Nat):Int),.int .i64 (p:Nat)])):=⟨mM,L8.o.trans (Fr.of_below k L8.o.dJ N),rfl,aP,nV.o.below N⟩;have a:=c.fb H.o I.o;have A:=a.c0;have B:=a.c1;have Z:=a.fr;obtain⟨wz,hwz,C,D,m,o⟩:=dL A B (.int .i64 10) (.int .i64 (p:Int));have E:=di (c.dU q.o ae aO m o);clear c a m o N FU;go_wp2_with fail;exact bodyPost_ret (v:=.agg #[.int .i64 10,.int .i64 (p:Int)]) aja rfl aiS
def vJ (S:Doc.dB)(p:Nat)(t:Doc.Tr):Except (Nat × Nat) Doc.dB:=match Doc.term S.syms 12 t S.terms with
 | .error x=>.error x
 | .ok r=>if Doc.dF r.1 r.2≠1 then .error (7,t.pos) else if S.held.length=12 then .error (9,p) else .ok { S with terms:=r.1,held:=S.held++[r.2] }
def Dr (w w':World)(own:Own)(k sb:Nat)(S:Doc.dB)(R:Except (Nat × Nat) Doc.dB)(e:Ending):Prop:=
 ∃own',Fr own own' k w w'/\match R with
  | .ok S'=>e=.returned (.agg #[.int .i64 0,.int .i64 0])/\dA w' own' k sb S'
  | .error x=>e=.returned (.agg #[.int .i64 (x.1:Nat),.int .i64 (x.2:Nat)])/\x.1≠0/\∃ex,dA w' own' k sb { S with terms:=S.terms++ex }
theorem Dr.fb {own:Own}{S:Doc.dB}{R:Except (Nat × Nat) Doc.dB}(a:Dr W u own n m S R h)(b:eB w W k)(c:own k≠n):eB w u k:=by
 obtain⟨_,d,_⟩:=a;exact b.fr' d c
theorem Dr.dU {own:Own}{S:Doc.dB}{R:Except (Nat × Nat) Doc.dB}(i:Dr W u (dw own k (n+1)) n m S R h)(j:Fr own (dw own k (n+1)) n w W)(e:w.heap.size<=k)(l:k<W.heap.size)
 (o:∀(own a:Own) (n:Nat) (c:World),Fr own a n c u->c.heap.size<=k->Fr own a n c U) (p:∀(own:Own) (n m:Nat) (S:Doc.dB),dA u own n m S->own k≠0->own k≠n->dA U own n m S):Dr w U own n m S R h:=by
 obtain⟨a,f,d⟩:=i;have x:a k=n+1:=ajv;refine⟨dw a k 0,(o _ _ _ _ (j.trans f) e).unbox e,?_⟩;have g:∀b,dA u a n m b->dA U (dw a k 0) n m b:=fun b q=>(p a n m b q aO aO).unbox aO aO;cases R with
 | ok y=>exact⟨d.1,g _ d.2⟩
 | error z=>
  obtain⟨r,s,t,v⟩:=d;exact⟨r,s,t,g _ v⟩
theorem Gc (F c p k B:Nat)(own:Own)(o:List Doc.Item)(Z:List Doc.Tr)(t:Doc.Tr)(S:Doc.dB)(w:World)(bg:gQ w own F c o p Z)(hS:dA w own k c S)(hfr:dH own w)(K:k≠0)(L:Doc.fQ S)(hl:Doc.kF o B t)(hin:Doc.within 11 t)(hok:t.ok)(hwd:t.width<=800) :
 Calls Tryz.prog 125 #[.pointer (some ⟨F,0,none⟩),.int .i64 (B:Nat)] w fun C w'=>Dr w w' own k c S (vJ S p t) C:=by
 obtain⟨e,hW1⟩:∃e,w.alloc (.cells #[.int .i64 0,.int .i64 0] 64)=e:=⟨_,rfl⟩;obtain⟨vZ,i⟩:=eB.start w;rw[hW1]at vZ i;have hsz:e.heap.size=w.heap.size+1:=ahZ;have M:=di vZ;have G:Hid (Fr own (dw own w.heap.size (k+1)) k w e):=Fr.boxed hfr i ae aO;have hS1:dA e (dw own w.heap.size (k+1)) k c S:=hS.boxed i ae;have kv:Hid (gQ e (dw own w.heap.size (k+1)) F c o p Z):=bg.boxed i ae;have HT:=di (RX F c k o K bg.few 11 t B _ S e hin kv.o.ord hS1 G.o.dJ L.book hl hok hwd);have Ah:=di (fun r=>Doc.rU S.syms 12 t S.terms r L.book hok hwd);have N:Hid (dw own w.heap.size (k+1) w.heap.size≠k):=bR;have hit:=hl.item;have h12:=L.pE;obtain⟨R,hR⟩:=aJ (vJ S p t);rw[hR];have O:=di hR;have HIT:=di hit;clear bg hS hfr vZ i L hR hS1 hit hl hin hok hwd;go_enter Tryz.func125,Tryz.ntmps125;go_wp2_with fail;refine HT.o.mono ?_;rintro C d ⟨P,q,Q⟩;have T:=M.o.fr' q N.o;cases hT:Doc.term S.syms 12 t S.terms with
 | error xx=>
  simp only[hT]at Q;obtain⟨rfl,hne,ex,H⟩:=Q;have j:Hid (R=.error xx):=by show _=_;rw[<-O.o];unfold vJ;rw[hT]
  obtain⟨f,l⟩:=xx;simp only at hne;have hen:((f:Int) !=0)=true:=aZ;have m:Below d.heap.size d (d.alloc (.cells #[.int .i64 (f:Nat),.int .i64 (l:Nat)] 64)):=ag;have f0:(d.alloc (.cells #[.int .i64 (f:Nat),.int .i64 (l:Nat)] 64)).cell? ⟨d.heap.size,0,none⟩=some (.int .i64 (f:Nat)):=aP;have f1:(d.alloc (.cells #[.int .i64 (f:Nat),.int .i64 (l:Nat)] 64)).cell? ⟨d.heap.size,1,none⟩=some (.int .i64 (l:Nat)):=aP;have a:Dr e (d.alloc (.cells #[.int .i64 (f:Nat),.int .i64 (l:Nat)] 64)) (dw own w.heap.size (k+1)) k c S (.error (f,l)) (.returned (.agg #[.int .i64 (f:Nat),.int .i64 (l:Nat)])):=⟨P,q.trans (Fr.of_below k q.dJ m),rfl,hne,ex,H.below m⟩;have U:=T.below m;clear hT q H m O;go_upto_region 2 with fail
  generalize d.alloc (.cells #[.int .i64 (f:Nat),.int .i64 (l:Nat)] 64)=wa at *;have s:=U.c0;have u:=U.c1;have cf:=U.fr;obtain⟨wz,hwz,v,x,g,h⟩:=dL s u (.int .i64 (f:Int)) (.int .i64 (l:Int));have y:=di (a.dU G.o ae aO g h);clear g h U a T;go_wp2_with fail;exact bodyPost_ret (v:=.agg #[.int .i64 (f:Nat),.int .i64 (l:Nat)]) aiw rfl ajZ
 | ok r=>
  simp only[hT]at Q;obtain⟨rfl,H⟩:=Q;have z:=Ah.o r hT;obtain⟨exg,abp⟩:=z.ext;have Ii:=di abp;have j:Hid (R=if Doc.dF r.1 r.2≠1 then .error (7,t.pos) else if S.held.length=12 then .error (9,p) else .ok { S with terms:=r.1,held:=S.held++[r.2] }):=by show _=_;rw[<-O.o];unfold vJ;rw[hT]
  have m:Below d.heap.size d (d.alloc (.cells #[.int .i64 0,.int .i64 0] 64)):=ag;have hf3:=q.trans (Fr.of_below k q.dJ m);have V8:=H.below m;have Wt:=kv.o.fr hf3 K;have FU:=T.below m;obtain⟨aA,lu,_,htm⟩:=qj c S.syms r.1 r.2 _ V8.book z.lt;have hts:=rX (ts:=r.1) z.lt;have o0:=Wt.ord.st;clear hT q H m O T abp;go_upto_region 4 with fail
  generalize d.alloc (.cells #[.int .i64 0,.int .i64 0] 64)=wa at *;have TZ:=di (htm wa af);rw[<-hts]at TZ;obtain⟨D,hso⟩:=aJ (Doc.dF r.1 r.2);rw[hso]at TZ j;have hfl:=EJ (.int .i64 (Doc.dZ (r.1[r.2]'z.lt).op:Nat)) (.int .i64 (r.1[r.2]'z.lt).sym) (.int .i64 (Doc.fq (r.1[r.2]'z.lt):Nat)) (.slice aA (r.1[r.2]'z.lt).args.length lu) (.int .i64 (D:Nat));have n:=di hf3;have Lu:=di V8;have acI:=di Wt;have ahQ:=di FU;clear htm hts hso hf3 V8 Wt FU;go_wp2_with fail;refine TZ.o.mono ?_;rintro C w4 ⟨rfl,V⟩;have A:=di V;have o4:=(acI.o.ord.below V).st;obtain⟨vI,hcI,uG⟩:=(acI.o.ord.below V).items;obtain⟨aI,cI,rfl,_⟩:=id uG;have HAT:=di (wR (.slice aI o.length cI) o B w4 uG.items);rw[ll HIT.o]at HAT;obtain⟨fin,hfin⟩:=aJ (B+(Doc.flat t B).length);simp only[hfin]at HAT;clear V uG hfin
  by_cases i:D=1
  ·have t1:((D:Int) !=1)=false:=by rw[i];rfl
   rw[if_neg aO]at j;have abj:dH P w4:=fun bn hc=>n.o.dJ bn (Nat.le_trans A.o.size hc);have HAS:=di (Ra c k r.2 P { S with terms:=r.1 } w4 (Lu.o.below A.o) abj K);simp only at HAS;clear i abj;go_wp2_with fail;refine HAS.o.mono ?_;rintro C W ⟨rfl,X⟩
   by_cases E:S.held.length<12
   ·rw[if_pos E]at X;rw[if_neg aO]at j;rw[decide_eq_true E];obtain⟨Y,I,J⟩:=X;have a:Dr e W (dw own w.heap.size (k+1)) k c S (.ok { S with terms:=r.1,held:=S.held++[r.2] }) (.returned (.agg #[.int .i64 0,.int .i64 0])):=⟨Y,(n.o.trans (Fr.of_below k n.o.dJ A.o)).trans I,rfl,J⟩;have b:=a.fb M.o N.o;have s:=b.c0;have u:=b.c1;have cf:=b.fr;obtain⟨wz,hwz,v,x,g,h⟩:=dL s u (.int .i64 0) (.int .i64 0);have y:=di (a.dU G.o ae aO g h);clear a b g h I J E o4 o0 hcI;go_wp2_with fail;exact bodyPost_ret (v:=.agg #[.int .i64 0,.int .i64 0]) aiw rfl ajZ
   ·rw[if_neg E]at X;rw[if_pos aO]at j;rw[decide_eq_false E];obtain⟨Y,I,J⟩:=X;have Wp:=(n.o.trans (Fr.of_below k n.o.dJ A.o)).trans I;have acF:=di Wp;have mh:=di J;have y9:=di (iV F c p 9 Y o Z W (kv.o.fr Wp K));clear I Wp J E o4 o0 hcI;go_wp2_with fail;refine y9.o.mono ?_;rintro C w6 ⟨rfl,hb6⟩;have a:Dr e w6 (dw own w.heap.size (k+1)) k c S (.error (9,p)) (.returned (.agg #[.int .i64 ((9:Nat):Int),.int .i64 (p:Nat)])):=⟨Y,acF.o.trans (Fr.of_below k acF.o.dJ hb6),rfl,aP,exg,by have:=mh.o.below hb6;simp only[Ii.o]at this;exact this⟩;have b:=a.fb M.o N.o;have s:=b.c0;have u:=b.c1;have cf:=b.fr;obtain⟨wz,hwz,v,x,g,h⟩:=dL s u (.int .i64 9) (.int .i64 (p:Int));have y:=di (a.dU G.o ae aO g h);clear a b g h hb6;go_wp2_with fail;exact bodyPost_ret (v:=.agg #[.int .i64 9,.int .i64 (p:Int)]) aiw rfl ajZ
  ·have t1:((D:Int) !=1)=true:=aQ;rw[if_pos i]at j;have aer:=uY (.int .i64 (t.pos:Int)) (.string ⟨t.text.toArray⟩) (.int .i64 (fin:Int));clear i;go_wp2_with fail;refine HAT.o.mono ?_;rintro C W ⟨rfl,hb5⟩;have a:Dr e W (dw own w.heap.size (k+1)) k c S (.error (7,t.pos)) (.returned (.agg #[.int .i64 ((7:Nat):Int),.int .i64 (t.pos:Nat)])):=⟨P,(n.o.trans (Fr.of_below k n.o.dJ A.o)).trans (Fr.of_below k (fun bn hc=>n.o.dJ bn (Nat.le_trans A.o.size hc)) hb5),rfl,aP,exg,by have:=(Lu.o.below A.o).below hb5;simp only[Ii.o]at this;exact this⟩;have b:=a.fb M.o N.o;have s:=b.c0;have u:=b.c1;have cf:=b.fr;obtain⟨wz,hwz,v,x,g,h⟩:=dL s u (.int .i64 7) (.int .i64 (t.pos:Int));have y:=di (a.dU G.o ae aO g h);clear a b g h hb5 o4 o0 hcI;go_wp2_with fail;exact bodyPost_ret (v:=.agg #[.int .i64 7,.int .i64 (t.pos:Int)]) aiw rfl ajZ
theorem MI {S:Doc.dB}(h:A.length=2)(a:A[1]?=some Y):Doc.assert S n A=vJ S n Y:=by
 match A,h with
 | [b,c],_=>
  simp at a;subst a;rfl
theorem MJ {S:Doc.dB}(h:A.length≠2):Doc.assert S n A=.error (4,n):=by
 match A,h with
 | [],_=>rfl
 | [_],_=>rfl
 | [_,_],h=>exact absurd rfl h
 | _::_::_::_,_=>rfl
theorem Nh (q e p k:Nat)(own:Own)(E:List Doc.Item)(b:List Doc.Tr)(S:Doc.dB)(w:World)(P:gQ w own q e E p b)(Q:dA w own k e S)(R:dH own w)(r:k≠0)(F:Doc.fQ S)(T:∀t∈b,Doc.within 11 t)(U:Doc.oks b)(hwd:Doc.eu b<=800) :
 Calls Tryz.prog 82 #[.pointer (some ⟨q,0,none⟩)] w fun G w'=>gF w w' own k e S (Doc.assert S p b) G:=by
 obtain⟨f,hW1⟩:∃f,w.alloc (.cells #[.int .i64 0,.int .i64 0] 64)=f:=⟨_,rfl⟩;obtain⟨H,o⟩:=eB.start w;rw[hW1]at H o;have hsz:f.heap.size=w.heap.size+1:=ahZ;have V:=di H;have s:Hid (Fr own (dw own w.heap.size (k+1)) k w f):=Fr.boxed R o ae aO;have u:dA f (dw own w.heap.size (k+1)) k e S:=Q.boxed o ae;have kG:=di u;have i:gQ f (dw own w.heap.size (k+1)) q e E p b:=P.boxed o ae;have kv:=di i;have W:Hid (dw own w.heap.size (k+1) w.heap.size≠k):=bR;obtain⟨bA,bB,hcN,I⟩:=i.ins;obtain⟨X,k1,k2⟩:=gG I.ints;rw[<-X]at k1;have o0:=i.ord.st;obtain⟨aT,cT,NB,t1,t2,_⟩:=xL u.book
 by_cases v:b.length=2
 ·obtain⟨t,J⟩:∃t,b[1]?=some t:=⟨_,aD aO⟩;have K:=List.mem_of_getElem? J;obtain⟨Y,ht'⟩:=List.getElem?_eq_some_iff.1 J;rw[MI v J];obtain⟨bC,rfl,d0⟩:=eY I.ints 1 _ (Doc.kV Y);have Z:=i.lies.kid Y;rw[Nat.zero_add,ht']at Z;have hwt:=Doc.jl (ks:=b) t K;have HAT:=di (Gc q e p k (Doc.start b 1 1) _ E b t S f i u s.o.dJ r F Z (T t K) (Doc.kQ U t K) aO);have h80:=F.book.many;generalize Doc.start b 1 1=st at *;obtain⟨bg,hR⟩:=aJ (vJ S p t);rw[hR]at HAT ⊢;have tl:((b.length:Int) !=2)=false:=by rw[v];rfl
  have tl1:(1:Int)<(b.length:Int):=aO;obtain⟨L,xy⟩:=aJ S.terms.length;rw[xy]at NB t1 h80;have wL:=di xy;clear P Q R H o F u i I X J ht' Z hwt hR v K T U hwd Y xy;generalize b.length=bn at *;go_enter Tryz.func82,Tryz.ntmps82;go_wp2_with fail;refine HAT.o.mono ?_;rintro G a ⟨x,j,hm⟩;cases bg with
  | ok S'=>
   obtain⟨rfl,y⟩:=hm;have n:Below a.heap.size a (a.alloc (.cells #[.int .i64 0,.int .i64 0] 64)):=ag;have f0:(a.alloc (.cells #[.int .i64 0,.int .i64 0] 64)).cell? ⟨a.heap.size,0,none⟩=some (.int .i64 0):=aP;have f1:(a.alloc (.cells #[.int .i64 0,.int .i64 0] 64)).cell? ⟨a.heap.size,1,none⟩=some (.int .i64 0):=aP;have d:gF f (a.alloc (.cells #[.int .i64 0,.int .i64 0] 64)) (dw own w.heap.size (k+1)) k e S (.ok S') (.returned (.agg #[.int .i64 0,.int .i64 0])):=⟨x,j.trans (Fr.of_below k j.dJ n),rfl,y.below n⟩;clear j y n;go_upto_region 5 with fail
   generalize a.alloc (.cells #[.int .i64 0,.int .i64 0] 64)=wa at *;have c:=d.fb V.o W.o;have z:=c.c0;have A:=c.c1;have cf:=c.fr;obtain⟨wz,hwz,B,C,l,m⟩:=dL z A (.int .i64 0) (.int .i64 0);have D:=di (d.dU s.o ae aO l m);clear d c l m;go_wp2_with fail;exact bodyPost_ret (v:=.agg #[.int .i64 0,.int .i64 0]) ajc rfl D.o
  | error bq=>
   obtain⟨g,h⟩:=bq;obtain⟨rfl,hne,ex,y⟩:=hm;simp only at hne;have hen:((g:Int) !=0)=true:=aZ;have n:Below a.heap.size a (a.alloc (.cells #[.int .i64 (g:Int),.int .i64 (h:Int)] 64)):=ag;have M:=j.trans (Fr.of_below k j.dJ n);have hs1:=j.size;have f0:(a.alloc (.cells #[.int .i64 (g:Int),.int .i64 (h:Int)] 64)).cell? ⟨a.heap.size,0,none⟩=some (.int .i64 (g:Int)):=aP;have f1:(a.alloc (.cells #[.int .i64 (g:Int),.int .i64 (h:Int)] 64)).cell? ⟨a.heap.size,1,none⟩=some (.int .i64 (h:Int)):=aP;have EF:=y.below n;have hfo:x a.heap.size=0:=j.dJ _ ae;clear j y n;go_upto_region 5 with fail
   generalize a.alloc (.cells #[.int .i64 (g:Int),.int .i64 (h:Int)] 64)=wa at *;have o3:=(kv.o.fr M r).ord.st
   have aef:(S.terms++ex).length<=2 ^ 63-1:=by
    obtain⟨bD,_,hr⟩:=EF.terms;obtain⟨_,_,_,q1,q2⟩:=hr.form;simp only at q1;exact aO
   have Y1:=di (AB e k L x { S with terms:=S.terms++ex } wa EF M.dJ r aO aef);have qw:=di M;clear M EF;go_wp2_with fail;refine Y1.o.mono ?_;rintro G w4 ⟨rfl,Vp,N,O⟩
   have hSS:({ syms:=S.syms,terms:=(S.terms++ex).take L,held:=S.held,levels:=S.levels }:Doc.dB)=S:=by
    rw[<-wL.o,List.take_append_of_le_length ae,List.take_length]
   try simp only at O
   rw[hSS]at O;have g0:=N.cell f0 (by show x a.heap.size≠k;rw[hfo];exact r.symm);have g1:=N.cell f1 (by show x a.heap.size≠k;rw[hfo];exact r.symm);have d:gF f w4 (dw own w.heap.size (k+1)) k e S (.error (g,h)) (.returned (.agg #[.int .i64 (g:Nat),.int .i64 (h:Nat)])):=⟨Vp,qw.o.trans N,rfl,hne,O⟩;have c:=d.fb V.o W.o;have z:=c.c0;have A:=c.c1;have cf:=c.fr;obtain⟨wz,hwz,B,C,l,m⟩:=dL z A (.int .i64 (g:Int)) (.int .i64 (h:Int));have D:=di (d.dU s.o ae aO l m);clear d c l m N O f0 f1 o3 o0 hSS;go_wp2_with fail;exact bodyPost_ret (v:=.agg #[.int .i64 (g:Nat),.int .i64 (h:Nat)]) ajc rfl D.o
 ·rw[MJ v];have tl:((b.length:Int) !=2)=true:=aQ;have y9:=di (iV q e p 4 _ E b f i);generalize b.length=bn at *;clear P Q R H o F u i I X v T U hwd;go_enter Tryz.func82,Tryz.ntmps82;go_wp2_with fail;refine y9.o.mono ?_;rintro G a ⟨rfl,hb2⟩;have d:=gF.fault (a:=4) (b:=p) s.o.dJ kG.o hb2 aO;have c:=d.fb V.o W.o;have z:=c.c0;have A:=c.c1;have cf:=c.fr;obtain⟨wz,hwz,B,C,l,m⟩:=dL z A (.int .i64 4) (.int .i64 (p:Int));have D:=di (d.dU s.o ae aO l m);clear d c l m hb2;go_wp2_with fail;exact bodyPost_ret (v:=.agg #[.int .i64 4,.int .i64 (p:Int)]) ajc rfl D.o
theorem aaH (d:0<x.length):Doc.forbidden x=(decide (8<x.length)||(x==[116,114,117,101])||(x==[102,97,108,115,101])||decide (Doc.fw x≠0)||decide (Doc.ji x≠0)||!(Doc.letter x[0])):=by
 have e:x.headD 0=x[0]:=by
  cases x with
  | nil=>simp at d
  | cons c u=>rfl
 have f:(decide (Doc.fw x≠0))=(x==Doc.wT||x==Doc.AQ||x==Doc.wU):=by
  rw[Bool.eq_iff_iff];unfold Doc.fw
  by_cases a:x=Doc.wT
  ·simp[a]
  ·rw[if_neg a]
   by_cases b:x=Doc.AQ
   ·rw[if_pos b];simp[b]
   ·rw[if_neg b]
    by_cases c:x=Doc.wU
    ·rw[if_pos c];simp[c]
    ·rw[if_neg c];simp[a,b,c]
 have g:(decide (Doc.ji x≠0))=Doc.jY x:=by
  rw[Bool.eq_iff_iff,decide_eq_true_iff];exact(Doc.uR x).symm
 rw[f,g];unfold Doc.forbidden;rw[e];show(Doc.jY x||x==[116,114,117,101]||x==[102,97,108,115,101]||_||_||_||_||_)=_;generalize Doc.jY x=h;generalize (x==[116,114,117,101])=i;generalize (x==[102,97,108,115,101])=j;generalize (x==Doc.wT)=k;generalize (x==Doc.AQ)=l;generalize (x==Doc.wU)=m;generalize Doc.letter x[0]=n;generalize decide (8<x.length)=o;cases h<;>cases i<;>cases j<;>cases k<;>cases l<;>cases m<;>cases n<;>cases o<;>rfl
theorem MS (x:List UInt8)(w:World)(n:eU w)(p:0<x.length)(u:x.length<=1000000) :
 Calls Tryz.prog 120 #[.string ⟨x.toArray⟩] w fun e q=>e=.returned (.bool (!(Doc.forbidden x)))/\q=w:=by
 have v:=fJ;have c:=di (aaH p);have g:=di (fun W=>DY x W);have h:=di (BL x w n);have o:=di (fun W=>BN x[0] W);generalize Doc.forbidden x=y at *;obtain⟨d,i⟩:=aJ (Doc.fw x);obtain⟨f,j⟩:=aJ (Doc.ji x);obtain⟨lt,k⟩:=aJ (Doc.letter x[0]);rw[i,j,k]at c;rw[i]at g;rw[j]at h;rw[k]at o;clear i j k n;have z:((x.length:Int)==0)=false:=aj aO;go_enter Tryz.func120,Tryz.ntmps120
 by_cases A:(8:Int)<x.length
 ·go_wp2_with fail;go_ret;exact⟨dK (by rw[c.o];simp[show 8<x.length by omega]),rfl⟩
 ·have r:Hid (decide (8<x.length)=false):=by show _=_;simp;omega
  cases h1:(x==[116,114,117,101])
  ·cases h2:(x==[102,97,108,115,101])
   ·by_cases l:d=0
    ·have s:((d:Int) !=0)=false:=by rw[l];rfl
     by_cases m:f=0
     ·have t:((f:Int) !=0)=false:=by rw[m];rfl
      go_wp2_with fail;refine(g.o _).mono ?_;rintro e b ⟨rfl,a⟩;rw[a];clear a b;go_wp2_with fail;refine h.o.mono ?_;rintro e b ⟨rfl,a⟩;rw[a];clear a b;go_wp2_with fail;refine(o.o _).mono ?_;rintro e b ⟨rfl,a⟩;rw[a];clear a b;go_wp2_with fail;go_ret;exact⟨dK (by rw[c.o,r.o,h1,h2,l,m];cases lt<;>rfl),rfl⟩
     ·have t:((f:Int) !=0)=true:=aQ;go_wp2_with fail;refine(g.o _).mono ?_;rintro e b ⟨rfl,a⟩;rw[a];clear a b;go_wp2_with fail;refine h.o.mono ?_;rintro e b ⟨rfl,a⟩;rw[a];clear a b;go_wp2_with fail;go_ret;exact⟨dK (by rw[c.o];simp[m]),rfl⟩
    ·have s:((d:Int) !=0)=true:=aQ;go_wp2_with fail;refine(g.o _).mono ?_;rintro e b ⟨rfl,a⟩;rw[a];clear a b;go_wp2_with fail;go_ret;exact⟨dK (by rw[c.o];simp[l]),rfl⟩
   ·go_wp2_with fail;go_ret;exact⟨dK (by rw[c.o,h2];simp),rfl⟩
  ·go_wp2_with fail;go_ret;exact⟨dK (by rw[c.o,h1];simp),rfl⟩
theorem yB (j s t u:Nat)(own:Own)(k:List Doc.Item)(a b:List Doc.Tr)(w:World)(h:gQ w own j s k t a)(l:dH own w)(d:2<a.length)(m:a[2]=.list u b) :
 Calls Tryz.prog 169 #[.pointer (some ⟨j,0,none⟩)] w fun e c=>(∃A q,e=.returned (.slice A b.length q)/\eD c own (.slice A b.length q) (Doc.places b (Doc.start a 1 2+1)))/\Below w.heap.size w c:=by
 obtain⟨I,J,f⟩:=h.ord.items;obtain⟨v,x,rfl,_⟩:=id f;obtain⟨A,q,K,g⟩:=h.ins;obtain⟨n,y,L⟩:=gG g.ints;rw[<-n]at y;obtain⟨M,rfl,N⟩:=eY g.ints 2 _ (Doc.kV d);have i:=h.lies.kid d;rw[Nat.zero_add,m]at i;have O:=h.few
 have z:Hid (∀W,Below w.heap.size w W->Calls Tryz.prog 78 #[.slice v k.length x,.int .i64 (Doc.start a 1 2:Nat)] W fun e c=>(∃A q,e=.returned (.slice A b.length q)/\eD c own (.slice A b.length q) (Doc.places b (Doc.start a 1 2+1)))/\Below W.heap.size W c):=fun W o=>
  BO (f.items.below o) i aO (fun B C=>l B (Nat.le_trans o.size C))
 have P:¬((a.length:Int)<3):=aO;have Q:(2:Int)<(a.length:Int):=aO;generalize Doc.start a 1 2=R at *;clear f i h g n m l;generalize b.length=S at *;generalize a.length=T at *;clear d;go_enter Tryz.func169,Tryz.ntmps169;go_wp2_with fail
 go_region_with (go_at_call 78;refine(z.o _ ah0).mono ?_;rintro e D ⟨⟨E,F,rfl,p⟩,r⟩)
 all_goals
  have G:=di p;have H:Hid (Below w.heap.size w D):=af.drew.trans r;clear p r;go_wp2_with fail;go_ret;exact⟨⟨E,F,rfl,G.o⟩,H.o⟩
def La (r:Nat)(js:List Doc.Tr):Except Nat (List Nat):=if 2<js.length then .error r else Doc.takes js
def AsP (w':World)(own:Own)(R:Except Nat (List Nat))(e:Ending):Prop:=match R with
 | .ok l=>∃A q,e=.returned (.tuple #[.slice A l.length q,.agg #[.int .i64 0,.int .i64 0]])/\eD w' own (.slice A l.length q) l/\l.length<=2
 | .error x=>e=.returned (.tuple #[.slice none 0 0,.agg #[.int .i64 7,.int .i64 (x:Nat)]])
def ada (js:List Doc.Tr)(m:Nat)(l:List Nat):Prop:=l.length=m/\Doc.jd js m l
theorem CJ (s X Y r:Nat)(own:Own)(n:List Doc.Item)(d a:List Doc.Tr)(w:World)(h:gQ w own s X n Y d)(Z:dH own w)(hl:2<d.length)(K:d[2]=.list r a) :
 Calls Tryz.prog 122 #[.pointer (some ⟨s,0,none⟩)] w fun e L=>AsP L own (La r a) e/\Below w.heap.size w L:=by
 obtain⟨i0,hi0,hz0,hz1,hz2⟩:=info_parts Tryz.mI;obtain⟨rG,M⟩:=eB.start w;have HFB:=di rG;have HB0:=di M;have afT:=di Z;have KG:dH own (w.alloc (.cells #[.int .i64 0,.int .i64 0] 64)):=fun bA hc=>Z bA (Nat.le_trans M.size hc);have Fp:=di (yB s X Y r own n d a _ (h.below M) KG hl K);have HIT:=di (fun W (t:Below w.heap.size w W)=>nM s X Y 2 own n d W (h.below t) hl);simp only[K,Doc.Tr.pos,Doc.Tr.text]at HIT;obtain⟨xV,Ez⟩:=aJ (Doc.start d 1 2+(Doc.flat (.list r a) (Doc.start d 1 2)).length);rw[Ez]at HIT;obtain⟨vI,hcI,uG⟩:=h.ord.items;obtain⟨aI,cI,rfl,_⟩:=id uG;have hol:=h.ord.lt;have hlk:=h.lies.kid hl;rw[Nat.zero_add,K]at hlk;clear Ez;generalize Doc.start d 1 2=o at *;have wK:=di (fun W (t:Below w.heap.size w W)=>(t.cell (p:=⟨s,1,none⟩) hol).trans hcI)
 have HAT:Hid (∀j (hj:j<a.length),∃fin:Nat,∀W,Below w.heap.size w W->Calls Tryz.prog 118 #[.slice aI n.length cI,.int .i64 (Doc.start a (o+1) j:Nat)] W fun e L=>e=.returned (.agg #[.int .i64 (a[j].pos:Int),.string ⟨a[j].text.toArray⟩,.int .i64 (fin:Int)])/\Below W.heap.size W L):=fun j hj=>by
  refine⟨Doc.start a (o+1) j+(Doc.flat a[j] (Doc.start a (o+1) j)).length,fun W t=>?_⟩;have:=wR (.slice aI n.length cI) n (Doc.start a (o+1) j) W (uG.items.below t);rw[ll (hlk.kid hj).item]at this;exact this
 have Ug:=di (fun bq (h:bq<a.length)=>Doc.kV (ks:=a) (b:=o+1) (n:=bq) h);have hfl:=uY (.int .i64 (r:Int)) (.string ⟨([]:List UInt8).toArray⟩) (.int .i64 (xV:Int));obtain⟨R,hR⟩:=aJ (La r a);have oQ:Hid (R=if 2<a.length then .error r else Doc.takes a):=by show _=_;rw[<-hR];rfl
 rw[hR];clear hR rG M Z KG K hlk uG h hcI;go_enter Tryz.func122,Tryz.ntmps122;go_wp2_with fail;refine Fp.o.mono ?_;rintro e g ⟨⟨bD,bF,rfl,hro⟩,N⟩;obtain⟨oU,k1,k2⟩:=gG hro.ints;rw[<-oU]at k1;have Ud:=di hro;have u:=di (HB0.o.trans (N.mono HB0.o.size));have XN:=di (HFB.o.below N);have hsz1:=N.size;simp only[World.size_alloc]at hsz1;clear oU hro N
 by_cases v:2<a.length
 ·have O:Hid (R=.error r):=by show _=_;rw[oQ.o,if_pos v]
  have t2:(2:Int)<(a.length:Int):=aO;clear v;go_wp2_with fail;refine(HIT.o _ u.o).mono ?_;rintro e x ⟨rfl,i⟩;have P:=XN.o.below i;have HB1:=di (u.o.trans (i.mono u.o.size));have y:=P.c0;have z:=P.c1;have cf:=P.fr;obtain⟨Q,hwz,A,B,f⟩:=iY y z (.int .i64 7) (.int .i64 (r:Int));have C:=di (HB1.o.trans f);clear i P f;go_wp2_with fail;exact bodyPost_ret (v:=.tuple #[.slice none 0 0,.agg #[.int .i64 7,.int .i64 (r:Int)]]) ai7 rfl ⟨by rw[O.o];rfl,C.o⟩
 ·have O:Hid (R=Doc.takes a):=by show _=_;rw[oQ.o,if_neg v]
  have t2:¬((2:Int)<(a.length:Int)):=aO;go_wp2_with fail
  go_loopw [5,21] (fun bB bg wr=>∃(m:Nat) (l:List Nat),bg=.int .i64 m/\m<=a.length/\ada a m l/\wr.ownsRow g.heap.size 3 1 bB m (gX l)/\Below g.heap.size g wr) (fun _ bg _=>a.length-(intOf bg).toNat)
  case atStart=>exact⟨0,[],rfl,aO,⟨rfl,Doc.jd.zero a⟩,World.ownsRow_nil _ _ _ _,af⟩
  case round=>
   obtain⟨m,l,rfl,hm,D,hown,S⟩:=hrel;have HOW:=di hown;have E:=di D;have qy:=di S;have mo:=di (u.o.trans (S.mono aO));obtain⟨p,q,rfl,hv1,hv2⟩:=fM hown;have o1:=wK.o wr mo.o;clear hown D
   by_cases T:m<a.length
   ·obtain⟨bG,rfl,d1⟩:=eY (Ud.o.ints.below S) m _ (Ug.o m T);obtain⟨fin,hcall⟩:=HAT.o m T;have HC:=di (hcall wr mo.o);have U:=di (E.o.2.bad T);have V:=di (E.o.2.next T);have LA:=di (fun W=>DY a[m].text W);obtain⟨b,D⟩:=aJ (Doc.fw a[m].text);rw[D]at U V LA;clear hcall D S;generalize Doc.start a (o+1) m=stm at *;generalize a[m].text=tx at *;generalize a[m].pos=k at *;go_wp2_with fail;refine HC.o.mono ?_;rintro e x ⟨rfl,i⟩;have hbb:=i.alloc i.size (.cells #[.int .i64 (k:Int),.string ⟨tx.toArray⟩,.int .i64 (fin:Int)] 129);have F:=di (qy.o.trans (hbb.mono qy.o.size));have acn:=di (ownsRow_below HOW.o hbb);have hs2:=F.o.size;simp only[World.size_alloc]at hs2;have i0':(x.alloc (.cells #[.int .i64 (k:Int),.string ⟨tx.toArray⟩,.int .i64 (fin:Int)] 129)).cell? ⟨x.heap.size,0,none⟩=some (.int .i64 (k:Int)):=aP;clear i hbb;go_wp2_with fail;refine(LA.o _).mono ?_;rintro e G ⟨rfl,hw3⟩;rw[hw3];clear hw3 G
    by_cases H:b=2\/b=3
    ·have HN:=di (V.o H)
     have hcase:(((b:Int) !=2)=false)\/(((b:Int) !=2)=true/\((b:Int) !=3)=false):=by
      rcases H with rfl|rfl
      ·exact Or.inl rfl
      ·exact Or.inr ⟨rfl,rfl⟩
     clear H V U i0';rcases hcase with t1|⟨t1,t3⟩
     all_goals
      go_wp2_with (at_builtin;refine dD rfl (.tmp 43) (.tmp 45) 57 rfl g.heap.size 3 i0 (.int .i64 0) 1 8 Tryz.underlying57 hi0 hz0 hz1 hz2 rfl aR (.slice p m q) m (gX l) rfl (by exact acn.o.alloc _) ⟨x.heap.size+1,0,none⟩ 1 [.int .i64 (b:Int)] rfl rfl (by exact sG _ _ _ _ aP) bX aX aO aQ ?_;intro ga eZ G hown' hgrow hg1 hg2;have HB3:Hid (Below g.heap.size g G):=(F.o.alloc F.o.size _).grown hgrow aQ (fun bC hx=>(acn.o.lt bC hx).1))
      have qw:Hid (G.ownsRow g.heap.size 3 1 (.slice (some ⟨ga,0,none⟩) (m+1) eZ) (m+1) (gX (l++[b]))):=by
       show G.ownsRow _ _ _ _ _ _;have I:gX (l++[b])=gX l++[.int .i64 (b:Int)]:=by simp[gX]
       rw[I];exact hown'
      clear hown' hgrow hg1 hg2;go_wp2_with fail;go_roundw
      case rel=>exact⟨m+1,l++[b],bJ,aO,⟨by rw[List.length_append,E.o.1];rfl,HN.o⟩,qw.o,HB3.o⟩
      case measure=>exact akL
    ·have Ik:Hid (R=.error k):=by show _=_;rw[O.o,U.o H]
     have t1:((b:Int) !=2)=true:=aQ;have t3:((b:Int) !=3)=true:=aQ;have c:=XN.o.below F.o;have oL:=di (u.o.trans (F.o.mono aO));clear V U H;go_upto_region 11 with fail
     generalize x.alloc (.cells #[.int .i64 (k:Int),.string ⟨tx.toArray⟩,.int .i64 (fin:Int)] 129)=wa at *;have y:=c.c0;have z:=c.c1;have cf:=c.fr;obtain⟨Q,hwz,A,B,f⟩:=iY y z (.int .i64 7) (.int .i64 (k:Int));have C:=di (oL.o.trans f).drew;clear c f;go_region
     all_goals
      go_wp2_with fail;exact bodyPost_ret (v:=.tuple #[.slice none 0 0,.agg #[.int .i64 7,.int .i64 (k:Int)]]) ai7 rfl ⟨by rw[Ik.o];rfl,C.o⟩
   ·have Ik:Hid (R=.ok l):=by show _=_;rw[O.o,E.o.2.end aO]
    have c:=XN.o.below qy.o;have y:=c.c0;have z:=c.c1;have cf:=c.fr;obtain⟨Q,hwz,A,B,f⟩:=iY y z (.int .i64 0) (.int .i64 0);have C:=di (mo.o.trans f)
    have iQ:Hid (AsP Q own (.ok l) (.returned (.tuple #[.slice p m q,.agg #[.int .i64 0,.int .i64 0]]))):=by
     have I:=E.o.1;have v:=HOW.o;have h3:eD wr (dw own w.heap.size 1) (.slice p m q) l:=yD (by rw[I];exact v) (fun bn hb=>by unfold dw;rw[if_neg aO];exact afT.o bn aO)
     have h4:eD Q own (.slice p m q) l:=h3.step (fun bn hb J=>by
      have hne:bn≠w.heap.size:=by
       intro e;unfold dw at J;rw[if_pos e]at J;exact aO
      refine⟨?_,by unfold dw at J;rw[if_neg hne]at J;exact J⟩;rw[<-hwz];exact(aC hne).trans (aC hne))
     exact⟨p,q,by rw[I],by rw[I];exact h4,aO⟩
    clear c f;go_wp2_with fail;exact bodyPost_ret (v:=.tuple #[.slice p m q,.agg #[.int .i64 0,.int .i64 0]]) ai7 rfl ⟨by rw[Ik.o];exact iQ.o,C.o⟩
def oD (k1 k2 k3:Doc.Tr):Nat × Nat:=
 if k1.isList=true then(4,k1.pos) else if k2.isList=false then(4,k2.pos)
 else match Doc.fP k2.kids with|some x=>(4,x)|none=>if k3.isList=true then(4,k3.pos) else(0,0)
theorem wW (h:Y.ok):(Y.text==[])=Y.isList:=by
 cases Y with
 | word q x=>simp only[Doc.Tr.ok]at h;simp[Doc.Tr.text,Doc.Tr.isList,h.1]
 | list q a=>rfl
theorem EO (K U V:Nat)(own:Own)(H:List Doc.Item)(i:List Doc.Tr)(o k p:Doc.Tr)(I:World)(bn:gQ I own K U H V i)(hfr:dH own I)(hl:i.length=4)(hk1:i[1]?=some o)(hk2:i[2]?=some k)(hk3:i[3]?=some p)(X:Doc.oks i) :
 Calls Tryz.prog 119 #[.pointer (some ⟨K,0,none⟩)] I fun g w'=>g=.returned (.agg #[.int .i64 ((oD o k p).1:Nat),.int .i64 ((oD o k p).2:Nat)])/\Below I.heap.size I w':=by
 obtain⟨h,Y⟩:=eB.start I;obtain⟨j,hW0⟩:∃j,I.alloc (.cells #[.int .i64 0,.int .i64 0] 64)=j:=⟨_,rfl⟩;rw[hW0]at h Y;have hsz:j.heap.size=I.heap.size+1:=by rw[<-hW0];simp
 have Z:=di h;have u:=di Y;have w:Hid (Below j.heap.size j j):=af;have x:=bn.below Y;have KG:dH own j:=fun bq hc=>hfr bq (Nat.le_trans Y.size hc);obtain⟨l1,g1⟩:=List.getElem?_eq_some_iff.1 hk1;obtain⟨l2,g2⟩:=List.getElem?_eq_some_iff.1 hk2;obtain⟨l3,g3⟩:=List.getElem?_eq_some_iff.1 hk3;have Ag:=di (fun W (t:Below j.heap.size j W)=>nM K U V 1 own H i W (x.below t) l1);have L:=di (fun W (t:Below j.heap.size j W)=>nM K U V 2 own H i W (x.below t) l2);have O:=di (fun W (t:Below j.heap.size j W)=>nM K U V 3 own H i W (x.below t) l3);have Fp:=di (fun r b (g:k=.list r b) W (t:Below j.heap.size j W)=>yB K U V r own H i b W (x.below t) (fun bq hc=>KG bq (Nat.le_trans t.size hc)) l2 (g2.trans g));obtain⟨vI,hcI,uG⟩:=x.ord.items;obtain⟨aI,cI,rfl,_⟩:=id uG;have hol:=x.ord.lt;have hlk:=x.lies.kid l2;rw[Nat.zero_add,g2]at hlk;obtain⟨bD,bF,hcN,P⟩:=x.ins;obtain⟨oU,kk1,kk2⟩:=gG P.ints;rw[<-oU]at kk1;have wK:=di (fun W (t:Below j.heap.size j W)=>(t.cell (p:=⟨K,1,none⟩) hol).trans hcI)
 have HAT:Hid (∀r b,k=.list r b->∀y (hj:y<b.length),∃fin:Nat,∀W,Below j.heap.size j W->Calls Tryz.prog 118 #[.slice aI H.length cI,.int .i64 (Doc.start b (Doc.start i 1 2+1) y:Nat)] W fun g w'=>g=.returned (.agg #[.int .i64 (b[y].pos:Int),.string ⟨b[y].text.toArray⟩,.int .i64 (fin:Int)])/\Below W.heap.size W w'):=fun r b g y hj=>by
  refine⟨Doc.start b (Doc.start i 1 2+1) y+(Doc.flat b[y] (Doc.start b (Doc.start i 1 2+1) y)).length,fun W t=>?_⟩;have:=wR (.slice aI H.length cI) H (Doc.start b (Doc.start i 1 2+1) y) W (uG.items.below t);rw[g]at hlk;rw[ll (hlk.kid hj).item]at this;exact this
 have Gg:Hid (∀r b,k=.list r b->∀bA∈b,bA.ok):=fun r b g bA ht=>by
  have:=Doc.kQ X k (List.mem_of_getElem? hk2);rw[g]at this;exact Doc.kQ this bA ht
 rw[g1]at Ag;rw[g2]at L;rw[g3]at O;have e1:=wW (Doc.kQ X o (List.mem_of_getElem? hk1));have e2:=wW (Doc.kQ X k (List.mem_of_getElem? hk2));have e3:=wW (Doc.kQ X p (List.mem_of_getElem? hk3));obtain⟨R,hR⟩:=aJ (oD o k p);have Q:Hid (R=if o.isList=true then(4,o.pos) else if k.isList=false then(4,k.pos) else match Doc.fP k.kids with|some bg=>(4,bg)|none=>if p.isList=true then(4,p.pos) else(0,0)):=by show _=_;rw[<-hR];rfl
 rw[hR];have tl:((i.length:Int) !=4)=false:=by rw[hl];rfl
 obtain⟨st,hst⟩:=aJ (Doc.start i 1 2);obtain⟨Qg,hf1⟩:=aJ (Doc.start i 1 1+(Doc.flat o (Doc.start i 1 1)).length);obtain⟨xV,hf2⟩:=aJ (Doc.start i 1 2+(Doc.flat k (Doc.start i 1 2)).length);obtain⟨zU,hf3⟩:=aJ (Doc.start i 1 3+(Doc.flat p (Doc.start i 1 3)).length);rw[hf1]at Ag;rw[hf2]at L;rw[hf3]at O;rw[hst]at HAT Fp;have QZ:=di (fun W=>ma o.pos Qg o.text W);have S:=di (fun W=>ma k.pos xV k.text W);have LV:=di (fun W=>ma p.pos zU p.text W);rw[e1]at QZ;rw[e2]at S;rw[e3]at LV;clear hf1 hf2 hf3 hst e1 e2 e3 hR X hk1 hk2 hk3 g1 g2 g3 P oU hlk uG bn x h Y hfr hcI;generalize i.length=bG at *;clear hl l1 l2 l3;generalize o.pos=z at *;generalize o.text=x1 at *;generalize o.isList=b1 at *;generalize p.pos=J at *;generalize p.text=x3 at *;generalize p.isList=b3 at *;cases b1
 ·cases k with
  | word r bg=>
   have l:Hid (R=(4,r)):=Q.o.trans rfl;simp only[Doc.Tr.pos,Doc.Tr.text,Doc.Tr.isList]at L S;clear Fp HAT Gg Q O LV;go_enter Tryz.func119,Tryz.ntmps119;go_wp2_with fail;refine(Ag.o _ w.o).mono ?_;rintro g w1 ⟨rfl,c⟩;have d:=c.alloc c.size (.cells #[.int .i64 (z:Int),.string ⟨x1.toArray⟩,.int .i64 (Qg:Int)] 129);have e:=di (w.o.trans (d.mono w.o.size));have f:=di d;clear c d;go_wp2_with fail;refine(QZ.o _).mono ?_;rintro g w2 ⟨rfl,a⟩;have q:=(a.cell (p:=⟨w1.heap.size,0,none⟩) aP).trans (show _=some (.int .i64 (z:Int)) by simp);have v:=di (e.o.trans (a.mono e.o.size));have A:=di (f.o.trans (a.mono f.o.size));clear a e f;clear q;go_wp2_with fail;refine(L.o _ v.o).mono ?_;rintro g w3 ⟨rfl,c⟩;have d:=c.alloc c.size (.cells #[.int .i64 (r:Int),.string ⟨bg.toArray⟩,.int .i64 (xV:Int)] 129);have e:=di (v.o.trans (d.mono v.o.size));have f:=di d;clear c d;go_wp2_with fail;refine(S.o _).mono ?_;rintro g w4 ⟨rfl,a⟩;have q:=(a.cell (p:=⟨w3.heap.size,0,none⟩) aP).trans (show _=some (.int .i64 (r:Int)) by simp);have T:=di (e.o.trans (a.mono e.o.size));have A:=di (f.o.trans (a.mono f.o.size));clear a e f;have h:=Z.o.below T.o;have B:=h.c0;have C:=h.c1;have cf:=h.fr;obtain⟨wz,hwz,D,E,n⟩:=iY B C (.int .i64 4) (.int .i64 (r:Int));have F:=di ((u.o.trans (T.o.mono u.o.size)).trans n);clear h n;go_wp2_with fail;exact bodyPost_ret (v:=.agg #[.int .i64 4,.int .i64 (r:Int)]) aia rfl ⟨ait,F.o⟩
  | list r b=>
   have afb:=di (Fp.o r b rfl);have agq:=di (HAT.o r b rfl);have afn:=di (Gg.o r b rfl);have rQ:Hid (R=match Doc.fP b with|some bg=>(4,bg)|none=>if b3=true then(4,J) else(0,0)):=Q.o.trans rfl;have Ug:=di (fun bC (bn:bC<b.length)=>Doc.kV (ks:=b) (b:=st+1) (n:=bC) bn);simp only[Doc.Tr.pos,Doc.Tr.text,Doc.Tr.isList]at L S;clear Fp HAT Gg Q;go_enter Tryz.func119,Tryz.ntmps119;go_wp2_with fail;refine(Ag.o _ w.o).mono ?_;rintro g w1 ⟨rfl,c⟩;have d:=c.alloc c.size (.cells #[.int .i64 (z:Int),.string ⟨x1.toArray⟩,.int .i64 (Qg:Int)] 129);have e:=di (w.o.trans (d.mono w.o.size));have f:=di d;clear c d;go_wp2_with fail;refine(QZ.o _).mono ?_;rintro g w2 ⟨rfl,a⟩;have q:=(a.cell (p:=⟨w1.heap.size,0,none⟩) aP).trans (show _=some (.int .i64 (z:Int)) by simp);have v:=di (e.o.trans (a.mono e.o.size));have A:=di (f.o.trans (a.mono f.o.size));clear a e f;clear q;go_wp2_with fail;refine(L.o _ v.o).mono ?_;rintro g w3 ⟨rfl,c⟩;have d:=c.alloc c.size (.cells #[.int .i64 (r:Int),.string ⟨([]:List UInt8).toArray⟩,.int .i64 (xV:Int)] 129);have e:=di (v.o.trans (d.mono v.o.size));have f:=di d;clear c d;go_wp2_with fail;refine(S.o _).mono ?_;rintro g w4 ⟨rfl,a⟩;have q:=(a.cell (p:=⟨w3.heap.size,0,none⟩) aP).trans (show _=some (.int .i64 (r:Int)) by simp);have T:=di (e.o.trans (a.mono e.o.size));have A:=di (f.o.trans (a.mono f.o.size));clear a e f;clear q;go_wp2_with fail;refine(afb.o _ T.o).mono ?_;rintro g w5 ⟨⟨A5,q5,rfl,P⟩,hb5⟩;obtain⟨oU,kk3,kk4⟩:=gG P.ints;rw[<-oU]at kk3;have Ud:=di P;have Cb:=di (T.o.trans (hb5.mono T.o.size));clear oU P hb5;go_wp2_with fail
   go_loopw [35] (fun bB wr=>∃m:Nat,bB=.int .i64 m/\m<=b.length/\Doc.fP b=Doc.fP (b.drop m)/\Below w5.heap.size w5 wr) (fun bB _=>b.length-(intOf bB).toNat)
   case atStart=>exact⟨0,rfl,aO,by rw[List.drop_zero],af⟩
   case round=>
    obtain⟨m,rfl,hm,hfl,hbel⟩:=hrel;have uK:=di hfl;have qy:=di hbel;have s:=di (Cb.o.trans (hbel.mono Cb.o.size));have o1:=wK.o wr s.o;clear hfl
    by_cases hlt:m<b.length
    ·obtain⟨bH,rfl,d1⟩:=eY (Ud.o.ints.below hbel) m _ (Ug.o m hlt);obtain⟨fin,hcall⟩:=agq.o m hlt;have acN:=di hcall;have HD:=di (Doc.yS hlt);have XJ:=di (fun W=>ma b[m].pos fin b[m].text W);rw[wW (afn.o b[m] aP)]at XJ;clear hcall hbel;generalize Doc.start b (st+1) m=stm at *;generalize b[m].text=tx at *;generalize b[m].pos=M at *;generalize b[m].isList=bm at *;cases bm
     ·go_wp2_with fail;refine(acN.o _ s.o).mono ?_;rintro g N ⟨rfl,c⟩;have d:=c.alloc c.size (.cells #[.int .i64 (M:Int),.string ⟨tx.toArray⟩,.int .i64 (fin:Int)] 129);have e:=di (s.o.trans (d.mono s.o.size));have f:=di d;clear c d;go_wp2_with fail;refine(XJ.o _).mono ?_;rintro g w7 ⟨rfl,a⟩;have q:=(a.cell (p:=⟨N.heap.size,0,none⟩) aP).trans (show _=some (.int .i64 (M:Int)) by simp);have G:=di (e.o.trans (a.mono e.o.size));have A:=di (f.o.trans (a.mono f.o.size));clear a e f;have oL:Hid (Below w5.heap.size w5 w7):=qy.o.trans (A.o.mono qy.o.size);clear q;go_wp2_with fail;go_roundw
      case rel=>exact⟨m+1,bJ,aO,by rw[uK.o,HD.o,if_neg aR],oL.o⟩
      case measure=>exact akL
     ·have l:Hid (R=(4,M)):=by show _=_;rw[rQ.o,uK.o,HD.o,if_pos rfl]
      go_wp2_with fail;refine(acN.o _ s.o).mono ?_;rintro g N ⟨rfl,c⟩;have d:=c.alloc c.size (.cells #[.int .i64 (M:Int),.string ⟨tx.toArray⟩,.int .i64 (fin:Int)] 129);have e:=di (s.o.trans (d.mono s.o.size));have f:=di d;clear c d;go_wp2_with fail;refine(XJ.o _).mono ?_;rintro g w7 ⟨rfl,a⟩;have q:=(a.cell (p:=⟨N.heap.size,0,none⟩) aP).trans (show _=some (.int .i64 (M:Int)) by simp);have G:=di (e.o.trans (a.mono e.o.size));have A:=di (f.o.trans (a.mono f.o.size));clear a e f;have h:=Z.o.below G.o;have B:=h.c0;have C:=h.c1;have cf:=h.fr;obtain⟨wz,hwz,D,E,n⟩:=iY B C (.int .i64 4) (.int .i64 (M:Int));have F:=di ((u.o.trans (G.o.mono u.o.size)).trans n);clear h n;go_wp2_with fail;exact bodyPost_ret (v:=.agg #[.int .i64 4,.int .i64 (M:Int)]) aia rfl ⟨ait,F.o⟩
    ·have HN:Hid (Doc.fP b=none):=by show _=_;rw[uK.o,List.drop_eq_nil_of_le aO];rfl
     cases b3
     ·have l:Hid (R=(0,0)):=by show _=_;rw[rQ.o,HN.o];rfl
      go_wp2_with fail;refine(O.o _ s.o).mono ?_;rintro g N ⟨rfl,c⟩;have d:=c.alloc c.size (.cells #[.int .i64 (J:Int),.string ⟨x3.toArray⟩,.int .i64 (zU:Int)] 129);have e:=di (s.o.trans (d.mono s.o.size));have f:=di d;clear c d;go_wp2_with fail;refine(LV.o _).mono ?_;rintro g w7 ⟨rfl,a⟩;have q:=(a.cell (p:=⟨N.heap.size,0,none⟩) aP).trans (show _=some (.int .i64 (J:Int)) by simp);have G:=di (e.o.trans (a.mono e.o.size));have A:=di (f.o.trans (a.mono f.o.size));clear a e f;have h:=Z.o.below G.o;have B:=h.c0;have C:=h.c1;have cf:=h.fr;obtain⟨wz,hwz,D,E,n⟩:=iY B C (.int .i64 0) (.int .i64 0);have F:=di ((u.o.trans (G.o.mono u.o.size)).trans n);clear h n q;go_wp2_with fail;exact bodyPost_ret (v:=.agg #[.int .i64 0,.int .i64 0]) aia rfl ⟨ait,F.o⟩
     ·have l:Hid (R=(4,J)):=by show _=_;rw[rQ.o,HN.o];rfl
      go_wp2_with fail;refine(O.o _ s.o).mono ?_;rintro g N ⟨rfl,c⟩;have d:=c.alloc c.size (.cells #[.int .i64 (J:Int),.string ⟨x3.toArray⟩,.int .i64 (zU:Int)] 129);have e:=di (s.o.trans (d.mono s.o.size));have f:=di d;clear c d;go_wp2_with fail;refine(LV.o _).mono ?_;rintro g w7 ⟨rfl,a⟩;have q:=(a.cell (p:=⟨N.heap.size,0,none⟩) aP).trans (show _=some (.int .i64 (J:Int)) by simp);have G:=di (e.o.trans (a.mono e.o.size));have A:=di (f.o.trans (a.mono f.o.size));clear a e f;have h:=Z.o.below G.o;have B:=h.c0;have C:=h.c1;have cf:=h.fr;obtain⟨wz,hwz,D,E,n⟩:=iY B C (.int .i64 4) (.int .i64 (J:Int));have F:=di ((u.o.trans (G.o.mono u.o.size)).trans n);clear h n;go_wp2_with fail;exact bodyPost_ret (v:=.agg #[.int .i64 4,.int .i64 (J:Int)]) aia rfl ⟨ait,F.o⟩
 ·have l:Hid (R=(4,z)):=by show _=_;rw[Q.o,if_pos rfl]
  clear Fp HAT Gg Q O LV L S;go_enter Tryz.func119,Tryz.ntmps119;go_wp2_with fail;refine(Ag.o _ w.o).mono ?_;rintro g w1 ⟨rfl,c⟩;have d:=c.alloc c.size (.cells #[.int .i64 (z:Int),.string ⟨x1.toArray⟩,.int .i64 (Qg:Int)] 129);have e:=di (w.o.trans (d.mono w.o.size));have f:=di d;clear c d;go_wp2_with fail;refine(QZ.o _).mono ?_;rintro g w2 ⟨rfl,a⟩;have q:=(a.cell (p:=⟨w1.heap.size,0,none⟩) aP).trans (show _=some (.int .i64 (z:Int)) by simp);have v:=di (e.o.trans (a.mono e.o.size));have A:=di (f.o.trans (a.mono f.o.size));clear a e f;have h:=Z.o.below v.o;have B:=h.c0;have C:=h.c1;have cf:=h.fr;obtain⟨wz,hwz,D,E,n⟩:=iY B C (.int .i64 4) (.int .i64 (z:Int));have F:=di ((u.o.trans (v.o.mono u.o.size)).trans n);clear h n;go_wp2_with fail;exact bodyPost_ret (v:=.agg #[.int .i64 4,.int .i64 (z:Int)]) aia rfl ⟨ait,F.o⟩
end Go.Proofs.YtbichedkajfmiaaGreatDoor
