import Derived.Test.YtjiagbaaikifpaaGreatDoorShelf
import Derived.Test.YtjiagbaaikifpaaGreatDoorGPS7
set_option maxRecDepth 100000
set_option maxHeartbeats 16000000
namespace Go.Proofs.YtjiagbaaikifpaaGreatDoor
open Go.RowKit Go.Proofs.Tryz
variable {W u w:World}{a:eu}{k m n:Nat}{l:List Nat}{x:dN}
structure gZ (w:World):Prop where
 at0:∃t fr,w.heap[0]?=some (.cells (Doc.gX.map eO).toArray t fr)
 tab : Lib.TabIs prog w "internal/strconv.uint64pow10" .u64 Lib.pow10Tab
theorem Tryz.JF : prog.globalNamed "internal/strconv.uint64pow10" = some 1 := by kernel_rfl
theorem gZ.fT (h:gZ w)(d:∀b,b<2->b<w.heap.size->W.heap[b]?=w.heap[b]?):gZ W:=by
 obtain⟨t,fr,e⟩:=h.at0;refine⟨⟨t,fr,by rw[d 0 aR (Array.getElem?_eq_some_iff.1 e).1];exact e⟩,?_⟩;have a:=h.tab;unfold Lib.TabIs World.var? at a ⊢;rw[Tryz.JF]at a ⊢;simp only[Option.bind_some]at a ⊢
 have f:1<w.heap.size:=by
  rcases Nat.lt_or_ge 1 w.heap.size with c|c
  ·exact c
  ·rw[Array.getElem?_eq_none c]at a;cases a
 rw[d 1 aR f];exact a
theorem gZ.below (h:gZ w)(a:dB w W):gZ W:=h.fT (λb _ c=>a.block b c)
theorem gZ.cell (h:gZ w)(i:Nat)(hi:i<15):w.cell? (dA 0 i)=some (dD (Doc.gX.getD i [])):=by
 obtain⟨t,fr,h⟩:=h.at0;rw[cell_of_row w 0 i _ t fr h];have:i<Doc.gX.length:=hi;simp[aF this,eO]
theorem Gg (a:Nat)(w:World)(c:gZ w)(f:5<=a)(g:a<=19) :
 dH 241 #[dw a] w λe d=>e=dF (dD (Doc.gX.getD (a-5) []))/\d=w:=by
 obtain⟨i,rfl⟩:∃i,a=i+5:=⟨a-5,aR⟩;have h:=c.cell i aR;have hi:i<15:=aR;have j:((i+5:Nat):Int)-5=(i:Int):=aR;have b:i+5-5=i:=aR;rw[b];have k:¬((i:Int)<0):=aR;generalize Doc.gX.getD i []=l at *;clear b;go_enter func241,ntmps241;go_wp2;go_ret;exact⟨rfl,rfl⟩
theorem Tf {x:dN}:Doc.kD x=match jw (λn:dN=>n==x) Doc.gX 0 with|some i=>5+i|none=>0:=by
 rw[um];rfl
theorem WU (a:Array Value)(k:Nat)(d:k<15)(v:Value)(b:a[k]?=some v)(w:World):(Instr.index 292 (.agg a) (dw (k:Int))).run prog w=.ok v w:=by
 have c:(0:Int)<=(k:Int)/\(k:Int)<(15:Nat):=aR;simp[Instr.index,run_underlying underlying292,asIntOf,c,go_sem,b];exact aR
theorem ZQ (i:Nat)(h:i<15):(Doc.gX.map eO).toArray[i]?=some (dD (Doc.gX.getD i [])):=by
 have:i<Doc.gX.length:=h;simp[aF this,eO]
theorem Eo (x:dN)(w:World)(o:gZ w) :
 dH 175 #[dD x] w λu v=>u=dF (dw (Doc.kD x:Nat))/\v=w:=by
 have C:=gU;obtain⟨tt,fr,p⟩:=o.at0;obtain⟨b,f⟩:=aK ((Doc.gX.map eO).toArray);have y:b.size=15:=by rw[<-f];rfl
 have z:Hid (∀i,i<15->b[i]?=some (dD (Doc.gX.getD i []))):=λi h=>by rw[<-f];exact ZQ i h
 rw[f]at p;have q:=dn (Tf (x:=x));have r:Hid (Doc.gX.length=15):=rfl;have A:Hid (∀i (h:i<Doc.gX.length),Doc.gX.getD i []=Doc.gX[i]):=λi h=>by rw[List.getD_eq_getElem?_getD,aF h];rfl
 have B:(prog.info? 292).map (·.size)=some b.size:=by rw[y];kernel_rfl
 generalize Doc.kD x=D at *;generalize Doc.gX=a at *;clear o f;go_enter func175,ntmps175;go_wp2_with (refine wpList_load_row rfl 292 _ rfl 0 rfl tt b fr _ p underlying292 rfl B ?_)
 go_loop [6] (fun i=>∃k:Nat,i=dw k/\k<=15/\jw (fun n:dN=>n==x) a 0=jw (fun n:dN=>n==x) a k) (fun i=>15-(intOf i).toNat)
 ·exact⟨0,rfl,aR,rfl⟩
 case round=>
  obtain⟨k,rfl,E,s⟩:=hrel;have g:=dn s;clear s
  by_cases j:k<15
  ·have t:=z.o k j;have c:k<a.length:=by rw[r.o];exact j
   have d:=A.o k c;obtain⟨l,m⟩:=aK (a.getD k []);rw[m]at t d;have F:=dn c;have G:=WU b k j _ t;cases hq:(l==x)
   ·have e:Hid (jw (λn:dN=>n==x) a k=jw (λn:dN=>n==x) a (k+1)):=uq c (by rw[<-d];exact hq);clear m d c;go_wp2;go_round
    ·exact⟨k+1,bL,aR,by rw[g.o];exact e.o⟩
    ·exact aph
   ·have e:Hid (jw (λn:dN=>n==x) a k=some k):=wM c (by rw[<-d];exact hq);clear m d c;go_wp2;go_ret;exact⟨fM (by rw[q.o,g.o,e.o];simp),rfl⟩
  ·have e:Hid (jw (λn:dN=>n==x) a k=none):=wN (by rw[r.o];omega);go_wp2;go_ret;exact⟨fM (by rw[q.o,g.o,e.o];rfl),rfl⟩
theorem QM:∀(n:Nat),0<n->Lib.decDigits n=dC.D n:=by
 intro n
 induction n using Nat.strongRecOn with
 | ind n b=>
  intro h;rw[Lib.decDigits,dC.yg h]
  by_cases a:n<10
  ·rw[dif_pos a,show n / 10=0 by omega,dC.jL,List.nil_append];unfold dC.rO;rw[show n % 10=n by omega]
  ·rw[dif_neg a,b (n / 10) aR aR];rfl
theorem aae (h:Doc.digits x=true):Lib.itoa (dC.val x:Nat)=x:=by
 obtain⟨b,c,d,_⟩:=Doc.nY h;unfold Lib.itoa;rw[if_neg aR,show((dC.val x:Nat):Int).toNat=dC.val x by simp];rcases d with rfl|f
 ·rw[show dC.val [48]=0 from rfl,Lib.decDigits];rfl
 ·have e:=dC.CB b f
  have g:0<dC.val x:=by
   rcases Nat.eq_zero_or_pos (dC.val x) with a|a
   ·rw[a,dC.jL]at e;exact absurd e c
   ·exact a
  rw[QM _ g];exact e.symm
theorem J4 (h:Doc.digits x=true):dC.val x<100000000:=by
 obtain⟨a,_,_,b⟩:=Doc.nY h;have:=dC.kQ a;exact Nat.lt_of_lt_of_le this (aP (Nat.pow_le_pow_right (show 0<10 by omega) b))
theorem Ug {a:Array Obj}:dB w (Sort.grow (w.drewN n) a):=
 ⟨rfl,rfl,rfl,by simp[Sort.grow],λi hi=>by simp only[Sort.grow];rw[Array.getElem?_append_left di];rfl⟩
theorem Zt:∀a:Fin 19,1<=a.1->a.1≠1->a.1≠2->a.1≠13->a.1≠14->5<=Doc.eG a.1/\Doc.eG a.1<=19/\Doc.gX.getD (Doc.eG a.1-5) []=Doc.iR a.1:=aY
theorem Tm (s:Nat)(b:List Doc.Sym)(u:List Doc.Term)(t:Doc.Term)(B:eu)(C D:Nat)(w:World)(j:rV w s b u)(f:gZ w)(e:Doc.Made b u t) :
 dH 187 #[dK s 0,.agg #[dw (Doc.eG t.op:Nat),dw t.sym,dw (Doc.fP t:Nat),.slice B C D,dw t.sort]] w λv L=>v=dF (dD (Doc.nameOf b t))/\dB w L:=by
 have k:dB w (w.alloc (.cells #[dw (Doc.eG t.op:Nat),dw t.sym,dw (Doc.fP t:Nat),.slice B C D,dw t.sort] 226)):=ai;have a:=dn k;obtain⟨g,c⟩:=aK (Doc.nameOf b t);rw[c];have E:=Doc.yt e
 by_cases n:t.op=1
 ·have h:Doc.eG t.op=1:=by rw[n];rfl
  have d:Hid (g=[116,114,117,101]):=by show _=_;rw[<-c];simp[Doc.nameOf,n];rfl
  exact aqN
 ·by_cases o:t.op=2
  ·have h:Doc.eG t.op=2:=by rw[o];rfl
   have d:Hid (g=[102,97,108,115,101]):=by show _=_;rw[<-c];simp[Doc.nameOf,o];rfl
   exact aqN
  ·by_cases i:t.op=14
   ·have h:Doc.eG t.op=3:=ao9;have x:=Doc.pq e i;have F:Doc.nameOf b t=t.text:=by simp[Doc.nameOf,i]
    rw[F]at x;have M:Doc.fP t=dC.val t.text:=by simp[Doc.fP,i]
    have S:=J4 x;have N:=dn (aae x);have d:Hid (g=t.text):=by show _=_;rw[<-c,F]
    rw[h,M]at a ⊢;have l:=dn (Tryz.strconv_Itoa (dC.val t.text:Nat) aR aR _ (f.below a.o).tab);rw[N.o]at l;clear k c e j f;go_enter func187,ntmps187;go_wp2_with fail;refine l.o.mono ?_;rintro v p ⟨rfl,T,U,G⟩;have y:Hid (dB w p):=by show Below _ _ _;rw[G];exact a.o.dW Ug
    clear G;go_wp2;go_ret;exact⟨ic d.o.symm,y.o⟩
   ·by_cases m:t.op=13
    ·have h:Doc.eG t.op=4:=by rw[m];rfl
     have H:t.sym<b.length:=by
      rcases e with ⟨q,_,_,_⟩|⟨q,_,_,_,_⟩|⟨_,q,_,_⟩|⟨O,P,q,_,_,_,_⟩
      ·exact aR
      ·exact aR
      ·exact q
      ·have:=Doc.kM O P;exact aR
     have d:Hid (g=b[t.sym].name):=by show _=_;rw[<-c];simp[Doc.nameOf,m];exact Doc.qP H
     rw[h]at a ⊢;obtain⟨Q,R,_,I⟩:=xY s b u t.sym w j H;have l:=dn (I _ a.o);clear k c e j f I;go_enter func187,ntmps187;go_wp2_with fail;refine l.o.dX λp z=>?_;have y:Hid (dB w (p.alloc (.cells #[dD b[t.sym].name,.slice Q b[t.sym].args.length R,dw b[t.sym].sort] 197))):=(a.o.dW z).alloc (Nat.le_trans a.o.size z.size) _;clear z;go_wp2;go_ret;exact⟨ic d.o.symm,y.o⟩
    ·obtain⟨J,K,A⟩:=Zt ⟨t.op,aR⟩ E.1 n o m i;simp only at J K A;have d:Hid (g=Doc.gX.getD (Doc.eG t.op-5) []):=by show _=_;rw[<-c,A];simp[Doc.nameOf,m,i]
     have l:=dn (Gg (Doc.eG t.op) _ (f.below a.o) J K);generalize Doc.gX.getD (Doc.eG t.op-5) []=V at *;generalize Doc.eG t.op=r at *;have W:((r:Int)==1)=false:=ak aR;have X:((r:Int)==2)=false:=ak aR;have Y:((r:Int)==3)=false:=ak aR;have Z:((r:Int)==4)=false:=ak aR;clear k c e j f A n o m i E;go_enter func187,ntmps187;go_wp2_with fail;refine l.o.mono ?_;rintro v p ⟨rfl,rfl⟩;go_wp2;go_ret;exact⟨ic d.o.symm,a.o⟩
theorem VH (a:List Doc.Term)(b:List Nat)(c:Nat):Doc.tail a (b++[c])=Doc.tail a b++32::Doc.gG a c:=by simp[Doc.tail]
theorem Lh (b:List Doc.Term)(a:List Nat)(k:Nat):(Doc.tail b (a.take k)).length<=(Doc.tail b a).length:=by
 have h:Doc.tail b a=Doc.tail b (a.take k)++Doc.tail b (a.drop k):=by
  conv=>lhs;rw[<-List.take_append_drop k a]
  simp only[Doc.tail,List.flatMap_append]
 rw[h,List.length_append];exact aR
theorem Dw {a:List Doc.Term}(h:∀t∈a,t.text.length<=800)(b:Nat):(Doc.gG a b).length<=800:=by
 unfold Doc.gG;cases e:a[b]? with
 | none=>simp
 | some t=>exact h t (List.mem_of_getElem? e)
theorem OM (g:Nat)(e:List Doc.Sym)(a:List Doc.Term)(v:Doc.iB e a):∀n,n<a.length->∀w,rV w g e a->gZ w->
 dH 135 #[dK g 0,dw n] w λm o=>m=dF (dD (Doc.gG a n))/\dB w o:=by
 intro n
 induction n using Nat.strongRecOn with
 | ind n J=>
  intro x w r z;have hR:=gU;have i:=v.terms n x;obtain⟨s,j,A,K⟩:=tC g e a n w r x;have M:=dn (K w af);have N:=dn (λW (h:dB w W)=>gF (A.below h))
  have LQ:a[n].args.length<=j/\j<=2 ^ 63-1:=by
   obtain⟨_,_,e1,k1,O,_⟩:=A;injection e1 with _ _ e3
   subst e3;unfold maxLen at O;exact⟨k1,O⟩
  obtain⟨P,hc2⟩:=LQ
  have p:Hid (Doc.gG a n=Doc.written a (Doc.nameOf e a[n]) a[n].args):=by
   show _=_;rw[Doc.uY x];exact i.text
  have B:Hid (∀W,dB w W->dH 187 #[dK g 0,.agg #[dw (Doc.eG a[n].op:Nat),dw a[n].sym,dw (Doc.fP a[n]:Nat),.slice s a[n].args.length j,dw a[n].sort]] W λm o=>m=dF (dD (Doc.nameOf e a[n]))/\dB W o):=
   λW h=>Tm g e a a[n] s _ j W (r.below h) (z.below h) i.made
  have Q:Hid (∀b,b∈a[n].args->b<n/\∀W,dB w W->dH 135 #[dK g 0,dw b] W λm o=>m=dF (dD (Doc.gG a b))/\dB W o):=
   λb d=>⟨i.args b d,λW h=>J b (i.args b d) (aP (i.args b d)) W (r.below h) (z.below h)⟩
  have R:=dn (λb=>Dw v.long b);have S:=R.o n;obtain⟨c,T⟩:=aK (a[n].args);obtain⟨f,U⟩:=aK (Doc.nameOf e a[n]);obtain⟨t,V⟩:=aK (Doc.gG a n);rw[T]at M N p B Q P;rw[U]at p B;rw[V]at p S ⊢;clear v r z J i A K T U V;generalize Doc.eG a[n].op=po at *;generalize a[n].sym=sy at *;generalize Doc.fP a[n]=pn at *;generalize a[n].sort=so at *;go_enter func135,ntmps135;go_wp2_with fail;refine M.o.dX λX C=>?_;have Y:Hid (dB w (X.alloc (.cells #[dw (po:Nat),dw sy,dw (pn:Nat),.slice s c.length j,dw so] 226))):=C.fO;have hs1:=C.size;clear C;go_wp2_with fail;refine(B.o _ Y.o).dX λw2 D=>?_;have b3:=(D.cell (p:=dA X.heap.size 3) aW).trans (show _=some (.slice s c.length j) by simp);have Z:Hid (dB w w2):=Y.o.dW D;clear D
  by_cases l:c.length=0
  ·have u:Hid (t=f):=by show _=_;rw[p.o];simp[Doc.written,l]
   have t0:((c.length:Int)==0)=true:=by rw[l];rfl
   generalize c.length=L at *;clear l;go_wp2;go_ret;exact⟨ic u.o.symm,Z.o⟩
  ·have u:Hid (t=40::f++Doc.tail a c++[41]):=by show _=_;rw[p.o];simp only[Doc.written,if_neg l]
   have t0:((c.length:Int)==0)=false:=ak aR;have E:=S;rw[u.o]at E;simp only[List.length_append,List.length_cons,List.length_nil]at E;have hnl:f.length<=1000:=aR
   have HTL:Hid (∀k,(40::f++Doc.tail a (c.take k)).length<=1000):=λk=>by
    have:=Lh a c k;simp only[List.length_append,List.length_cons];exact aR
   clear E;obtain⟨L,F⟩:=aK c.length;rw[F]at t0 b3 P l ⊢;have HL:=dn F;clear F l;go_wp2_with fail
   go_loopw [7,26] (fun bn G wr=>∃(k:Nat) (y:dN),G=dw k/\k<=L/\bn=dD y/\y=40::f++Doc.tail a (c.take k)/\dB w wr) (fun _ G _=>L-(intOf G).toNat)
   ·exact⟨0,_,rfl,aR,rfl,by simp[Doc.tail],Z.o⟩
   case round=>
    obtain⟨k,y,rfl,hk,rfl,H,q⟩:=hrel;have om:=dn q;have HY:=dn H;have hyl:y.length<=1000:=by rw[H];exact HTL.o k
    clear H
    by_cases hlt:k<L
    ·have hkl:k<c.length:=by rw[HL.o];exact hlt
     obtain⟨b,d⟩:∃b,c[k]?=some b:=⟨_,aF hkl⟩;obtain⟨bq,rfl,d1⟩:=N.o wr q k b d;have hmem:b∈c:=List.mem_of_getElem? d;obtain⟨han,hcall⟩:=Q.o b hmem;have mq:=dn (hcall wr q);have hal:=R.o b;obtain⟨bg,I⟩:=aK (Doc.gG a b);rw[I]at mq hal;have HZ:=dn I;have uF:Hid (c.take (k+1)=c.take k++[b]):=by show _=_;rw[List.take_add_one,d];rfl
     clear q hcall d hmem hkl I;go_wp2_with fail;refine mq.o.dX λw3 hb3=>?_;have HB3:Hid (dB w w3):=om.o.dW hb3;clear hb3;go_wp2;go_roundw
     ·exact⟨k+1,_,bL,aR,rfl,by rw[uF.o,VH,HZ.o,HY.o];simp,HB3.o⟩
     ·exact aph
    ·clear q;go_wp2;go_ret;exact⟨ic (by rw[u.o,HY.o,List.take_of_length_le (by rw[HL.o];omega)]),om.o⟩
theorem GZ (b:Nat):∀(a:List Nat),a≠[]->Doc.ig (a++[b])=Doc.ig a++32::Doc.jc b:=by
 intro a
 induction a with
 | nil=>intro h;exact absurd rfl h
 | cons x a e=>
  intro _;cases a with
  | nil=>rfl
  | cons y f=>
   have c:∀d,Doc.ig (x::y::d)=Doc.jc x++32::Doc.ig (y::d):=λ_=>rfl;have:=e aW;simp only[List.cons_append]at this ⊢;rw[c,this,c];exact aW
theorem qc (s:Nat):(Doc.jc s).length<=4:=by
 unfold Doc.jc;split
 ·exact aY
 ·split<;>decide
theorem Dx:∀(a:List Nat),(Doc.ig a).length<=5*a.length:=by
 intro a
 induction a with
 | nil=>simp[Doc.ig]
 | cons x a b=>
  have:=qc x;cases a with
  | nil=>simp only[Doc.ig,List.length_cons,List.length_nil];omega
  | cons y c=>rw[Doc.ig];simp only[List.length_append,List.length_cons]at b ⊢;omega;simp
def lY (x:Doc.Sym):dN:=40::Doc.iF++32::x.name++[32,40]
def nI (x:Doc.Sym):dN:=lY x++Doc.ig x.args++41::32::Doc.jc x.sort++[41]
theorem qb (x:Doc.Sym):Doc.kS x=nI x++[10]:=by simp[Doc.kS,nI,lY]
theorem Jj (x:Doc.Sym)(A:eu)(p:Nat)(w:World)(hi:eX w (.slice A x.args.length p) x.args)(j:Doc.vZ x)(hn:x.name.length<=1000) :
 dH 134 #[.agg #[dD x.name,.slice A x.args.length p,dw x.sort]] w λe r=>e=dF (dD (nI x))/\dB w r:=by
 have hR:=gU
 have LQ:x.args.length<=p/\p<=2 ^ 63-1:=by
  obtain⟨_,_,e1,k1,H,_⟩:=id hi;injection e1 with _ _ e3
  subst e3;unfold maxLen at H;exact⟨k1,H⟩
 obtain⟨hc1,hc2⟩:=LQ;have t:dB w (w.alloc (.cells #[dD x.name,.slice A x.args.length p,dw x.sort] 197)):=ai;have l:=dn t;have g:=dn (gF (hi.below t));have I:Hid (∀s,s=1\/s=2\/s=3->∀W,dH 186 #[dw (s:Nat)] W λe r=>e=dF (dD (Doc.jc s))/\r=W):=λs J W=>LM s W J;have K:=dn j.sort;have M:=dn j.args;have qB:=j.few;have N:=dn qc;have h:Hid (nI x=lY x++Doc.ig x.args++41::32::Doc.jc x.sort++[41]):=rfl;have u:Hid (lY x=(40::Doc.iF++32::x.name)++[32,40]):=by show _=_;simp[lY]
 have O:Hid ((lY x).length<=1100):=by show _<=_;simp[lY,Doc.iF];omega
 have P:=dn (λk=>Dx (x.args.take k));obtain⟨L,v⟩:=aK x.args.length;rw[v]at hc1 qB l g ⊢;have m:=dn v;obtain⟨a,Q⟩:=aK x.args;rw[Q]at M P h m g;obtain⟨d,R⟩:=aK x.sort;rw[R]at K h l g ⊢;obtain⟨S,T⟩:=aK (nI x);rw[T]at h ⊢;obtain⟨i,U⟩:=aK (lY x);rw[U]at h u O;obtain⟨B,V⟩:=aK x.name;rw[V]at hn u l g ⊢;clear t hi j v Q R T U V;go_enter func134,ntmps134;go_wp2_with fail
 go_loopw [3,13] (fun s C wr=>∃(k:Nat) (y:dN),C=dw k/\k<=L/\s=dD y/\y=i++Doc.ig (a.take k)/\wr=w.alloc (.cells #[dD B,.slice A L p,dw d] 197)) (fun _ C _=>L-(intOf C).toNat)
 ·exact⟨0,_,rfl,aR,rfl,by rw[u.o];simp[Doc.ig,Doc.iF],rfl⟩
 case round=>
  obtain⟨k,y,rfl,hk,rfl,D,rfl⟩:=hrel;have E:=dn D
  have hyl:y.length<=2000:=by
   rw[D,List.length_append];have X:=O.o;have h2:=P.o k;have h3:(a.take k).length<=2:=by simp;rw[m.o];omega
   exact aR
  clear D
  by_cases hlt:k<L
  ·have Y:k<a.length:=by rw[m.o];exact hlt
   obtain⟨b,n⟩:∃b,a[k]?=some b:=⟨_,aF Y⟩;obtain⟨bg,rfl,d1⟩:=g.o k b n;have Z:b∈a:=List.mem_of_getElem? n;have F:=N.o b;have f:=dn (I.o b (aP (M.o b Z)));obtain⟨z,c⟩:=aK (Doc.jc b);rw[c]at f F;have uF:Hid (a.take (k+1)=a.take k++[b]):=by show _=_;rw[List.take_add_one,n];rfl
   have mP:Hid (0<k->a.take k≠[]):=λJ e=>by have X:=congrArg List.length e;rw[List.length_take,List.length_nil]at X;omega
   have o:=dn c;clear n Z c Y
   by_cases G:k=0
   ·have q:Hid (y++z=i++Doc.ig (a.take (k+1))):=by
     show _=_;rw[uF.o,E.o,G];simp[Doc.ig,o.o]
    subst G;go_wp2_with fail;refine(f.o _).mono ?_;rintro e w3 ⟨rfl,rfl⟩;go_wp2;go_roundw
    ·first|exact⟨1,_,bL,aR,rfl,q.o,rfl⟩|exact⟨1,_,bL,aR,rfl,q.o,trivial⟩
    ·exact aph
   ·have q:Hid (y++32::z=i++Doc.ig (a.take (k+1))):=by
     show _=_;rw[uF.o,E.o,GZ b _ (mP.o aR),o.o];exact aW
    have hkp:(0:Int)<(k:Int):=aR;clear G;go_wp2_with fail;refine(f.o _).mono ?_;rintro e w3 ⟨rfl,rfl⟩;go_wp2;go_roundw
    ·exact⟨k+1,_,bL,aR,rfl,by rw[<-q.o],by trivial⟩
    ·exact aph
  ·have f:=dn (I.o d K.o);have F:=N.o d;obtain⟨z,c⟩:=aK (Doc.jc d);rw[c]at f F;have o:=dn c;have HTA:Hid (a.take k=a):=List.take_of_length_le (by rw[m.o];omega);clear c;go_wp2_with fail;refine(f.o _).mono ?_;rintro e w3 ⟨rfl,rfl⟩;go_wp2;go_ret;exact⟨ic (by rw[h.o,E.o,HTA.o,o.o];simp),l.o⟩
theorem pF {a:Type}(f:a->dN)(B:Nat):∀(l:List a),(∀x∈l,(f x).length<=B)->(l.flatMap f).length<=l.length*B:=by
 intro l
 induction l with
 | nil=>intro _;simp
 | cons b l c=>
  intro h;have e:=h b List.mem_cons_self;have g:=c (λx d=>h x (List.mem_cons_of_mem _ d));rw[List.flatMap_cons,List.length_append,List.length_cons,Nat.succ_mul];exact aR
theorem Ci {a:Type}{l:List a}{x:a}(b:l[m]?=some x)(h:n<=m):(l.take (m+1)).drop n=(l.take m).drop n++[x]:=by
 have hi:=(aG b).1;rw[List.take_add_one,b,List.drop_append_of_le_length amg];rfl
theorem EM {b:Type}(l:List b)(a:Nat):(l.take a).drop a=[]:=List.drop_eq_nil_of_le amg
theorem Js {a:Type}{l:List a}{x:a}(h:x∈(l.take m).drop n):x∈l:=List.take_subset _ _ (List.mem_of_mem_drop h)
theorem yn {a:Type}(l:List a)(b i:Nat):((l.take i).drop b).length<=l.length:=by rw[List.length_drop,List.length_take];omega
theorem Ch {x:Doc.Sym}(h:Doc.vZ x):x.name.length<=8:=by
 have:=h.name;unfold Doc.forbidden at this;simp only[Bool.or_eq_false_iff]at this;have a:=this.2;simp at a;exact a
theorem vR {x:Doc.Sym}(h:Doc.vZ x):(nI x).length<=99:=by
 have a:=Ch h;have b:=Dx x.args;have c:=h.few;have d:=qc x.sort;simp only[nI,lY,Doc.iF,List.length_append,List.length_cons,List.length_nil];exact aR
structure EZ (w:World)(sb:Nat)(hs:List Nat):Prop where
 held:∃v,w.cell? (dA sb 2)=some v/\eX w v hs
theorem EZ.below (h:EZ w n l)(a:dB w W):EZ W n l:=by
 obtain⟨v,b,c⟩:=h.held;exact⟨v,(a.eT b),c.below a⟩
theorem dI.Xc {own:Own}{S:Doc.dO}(h:dI w own n m S):EZ w m S.held:=by
 obtain⟨v,a,b⟩:=h.held;refine⟨v,a,gu.imp b.sl λj i hi c _=>?_⟩;obtain⟨d,_,e,f⟩:=c.2 hi;have g:d=[dw (S.held[i]:Int)]:=e;subst g;have:=f 0 _ aR rfl;rw[show i*1+0=i by omega]at this;exact this
theorem Ll (l:Nat)(S:Doc.dO)(a A b c B d:Nat)(w:World)(g:Doc.iq S)(e:rV w l S.syms S.terms)(U:EZ w l S.held)(V:gZ w)(hac:a<=c)(X:c<=S.syms.length)(hbd:b<=d)(Y:d<=S.held.length) :
 dH 88 #[dK l 0,.agg #[dw a,dw A,dw b],.agg #[dw c,dw B,dw d]] w λm o=>m=dF (dD (Doc.part S a b c d))/\dB w o:=by
 have hR:=gU;have Fv:=g.book.few;have hh12:=g.qR;have Z:dB w ((w.alloc (.cells #[dw a,dw A,dw b] 133)).alloc (.cells #[dw c,dw B,dw d] 133)):=ai.alloc aW _;have HB0:=dn Z
 have G:Hid (∀W,Below (w.heap.size+1+1) ((w.alloc (.cells #[dw a,dw A,dw b] 133)).alloc (.cells #[dw c,dw B,dw d] 133)) W->W.dQ w.heap.size 2=some (dw b)/\W.dQ (w.heap.size+1) 0=some (dw c)/\W.dQ (w.heap.size+1) 2=some (dw d)/\dB w W/\w.heap.size+1+1<=W.heap.size):=λW e=>
  ⟨(e.cell (p:=dA w.heap.size 2) aZ).trans aW,(e.cell (p:=dA (w.heap.size+1) 0) dh).trans aW,(e.cell (p:=dA (w.heap.size+1) 2) dh).trans aW,HB0.o.trans (e.mono aR),by have:=e.size;simpa using this⟩
 have abC:Hid (∀i x,S.syms[i]?=some x->Doc.vZ x/\∃p q,∀W,dB w W->(dH 133 #[dK l 0,dw (i:Nat)] W λm o=>m=dF (.agg #[dD x.name,.slice p x.args.length q,dw x.sort])/\dB W o)/\dH 134 #[.agg #[dD x.name,.slice p x.args.length q,dw x.sort]] W λm o=>m=dF (dD (nI x))/\dB W o):=λi x j=>by
  obtain⟨hi,hx'⟩:=aG j;subst hx';have s:=g.book.syms _ (List.getElem_mem hi);obtain⟨p,q,h1,h2⟩:=xY l S.syms S.terms i w e hi;exact⟨s,p,q,λW h=>⟨h2 W h,Jj _ p q W (h1.below h) s (aP (Ch s))⟩⟩
 have HTT:Hid (∀n,n∈S.held->∀W,dB w W->dH 135 #[dK l 0,dw (n:Nat)] W λm o=>m=dF (dD (Doc.gG S.terms n))/\dB W o):=λn t W h=>
  OM l S.syms S.terms g.book n (g.held n t).1 W (e.below h) (V.below h)
 obtain⟨vH,hcH,H⟩:=U.held;obtain⟨aH,Ef,rfl,k1,f,_⟩:=id H;unfold maxLen at f;have YD:=dn (λW (h:dB w W)=>gF (H.below h));have I9:=dn (λW (h:dB w W)=>(h.eT hcH))
 have FP:Hid (∀i,(((S.syms.take i).drop a).flatMap Doc.kS).length<=1000):=λi=>by
  refine Nat.le_trans (pF Doc.kS 100 _ (λx j=>?_)) ?_
  ·rw[qb,List.length_append];have:=vR (g.book.syms x (Js j));exact aqm
  ·have:=yn S.syms a i;exact aR
 have HTL:=dn (λn=>Dw g.book.long n)
 have HHL:Hid (∀i,(((S.held.take i).drop b).flatMap (Doc.ji S.terms)).length<=12000):=λi=>by
  refine Nat.le_trans (pF (Doc.ji S.terms) 1000 _ (λx j=>?_)) ?_
  ·have:=HTL.o x;simp[Doc.ji,Doc.jH];exact aR
  ·have:=yn S.held b i;exact aR
 have U5:Hid (Doc.part S a b c d=((S.syms.take c).drop a).flatMap Doc.kS++((S.held.take d).drop b).flatMap (Doc.ji S.terms)):=rfl;generalize Doc.part S a b c d=res at *;clear Z e U V g hcH H;have hlen:d<=12:=aR;have hlc:c<=8:=aR;have RL:=dn Y;have uI:=dn X;obtain⟨I,J⟩:=aK S.held.length;rw[J]at k1 Y I9 hh12;have alN:=dn J;clear J X;go_enter func88,ntmps88;go_wp2_with fail
 go_loopw [7,8] (fun K i wr=>∃(k:Nat) (y:dN),i=dw k/\a<=k/\k<=c/\K=dD y/\y=((S.syms.take k).drop a).flatMap Doc.kS/\Below (w.heap.size+1+1) ((w.alloc (.cells #[dw a,dw A,dw b] 133)).alloc (.cells #[dw c,dw B,dw d] 133)) wr) (fun _ i _=>c-(intOf i).toNat)
 ·exact⟨a,[],rfl,aR,hac,rfl,by rw[EM];rfl,af⟩
 case round=>
  obtain⟨k,y,rfl,hak,hkc,rfl,L,r⟩:=hrel;obtain⟨b2,b0,bd,u,E⟩:=G.o wr r;have om:=dn r;have jG:=dn u;have HY:=dn L;have hyl:y.length<=1000:=by rw[L];exact FP.o k
  clear L r u
  by_cases hlt:k<c
  ·obtain⟨x,j⟩:∃x,S.syms[k]?=some x:=⟨_,aF (aP uI.o)⟩;obtain⟨s,p,q,M⟩:=abC.o k x j;have lH:=dn (M wr jG.o).1;have jl:=dn (λW h=>(M W h).2);have hbl:=vR s;have N:=dn (Ci j hak);have C:=dn (qb x);obtain⟨z,v⟩:=aK (nI x);rw[v]at jl hbl C;clear M s j v;go_wp2_with fail;refine lH.o.dX λw2 hb2=>?_;have O:dB wr (w2.alloc (.cells #[dD x.name,.slice p x.args.length q,dw x.sort] 197)):=hb2.fO;have HB3:=dn (jG.o.dW O);have rz:=dn (om.o.trans (O.mono E));clear hb2 O;go_wp2_with fail;refine(jl.o _ HB3.o).dX λw3 D=>?_;have P:=dn (rz.o.trans (D.mono (G.o _ rz.o).2.2.2.2));clear D;go_wp2;go_roundw
   ·exact⟨k+1,_,bL,aR,aR,rfl,by rw[N.o,List.flatMap_append,HY.o];simp[C.o],P.o⟩
   ·exact aph
  ·have HYC:Hid (y=((S.syms.take c).drop a).flatMap Doc.kS):=by show _=_;rw[HY.o,show k=c by omega]
   go_wp2_with fail
   go_loopw [7,10] (fun K i wr=>∃(k:Nat) (z:dN),i=dw k/\b<=k/\k<=d/\K=dD (y++z)/\z=((S.held.take k).drop b).flatMap (Doc.ji S.terms)/\Below (w.heap.size+1+1) ((w.alloc (.cells #[dw a,dw A,dw b] 133)).alloc (.cells #[dw c,dw B,dw d] 133)) wr) (fun _ i _=>d-(intOf i).toNat)
   ·exact⟨b,[],rfl,aR,hbd,aW,by rw[EM];rfl,om.o⟩
   case round=>
    clear b2 b0 bd E;obtain⟨f,z,rfl,hbk,hkd,rfl,v,r⟩:=hrel;rename World=>F;obtain⟨b2,b0,bd,u,E⟩:=G.o F r;have hcell:=I9.o F u;have R4:=dn r;have Q:=dn u;have HZ:=dn v;have hzl:z.length<=12000:=by rw[v];exact HHL.o f
    have hyz:(y++z).length<=13000:=aoA;obtain⟨bg,R⟩:=aK (y++z);rw[R]at hyz ⊢;have HU:=dn R;clear v r u R
    by_cases hlt2:f<d
    ·obtain⟨n,t⟩:∃n,S.held[f]?=some n:=⟨_,aF (aP RL.o)⟩;obtain⟨bn,rfl,d1⟩:=YD.o F Q.o f n t;have HC:=dn (HTT.o n (List.mem_of_getElem? t) F Q.o);have N:=dn (Ci t hbk);have htl:=HTL.o n;have C:Hid (Doc.ji S.terms n=[40,97,115,115,101,114,116,32]++Doc.gG S.terms n++[41,10]):=by show _=_;simp[Doc.ji,Doc.jH]
     obtain⟨T,htx⟩:=aK (Doc.gG S.terms n);rw[htx]at HC htl C;have hkn:(f:Int)<(I:Int):=aR;clear t htx;go_wp2_with fail;refine HC.o.dX λw3 D=>?_;have P:=dn (R4.o.trans (D.mono E));clear D;go_wp2;go_roundw
     ·exact⟨f+1,z++([40,97,115,115,101,114,116,32]++T++[41,10]),bL,aR,aR,by rw[<-HU.o];simp,by rw[N.o,List.flatMap_append,HZ.o];simp[C.o],P.o⟩
     ·exact aph
    ·go_wp2;go_ret;exact⟨ic (by rw[U5.o,<-HU.o,HYC.o,HZ.o,show f=d by omega]),Q.o⟩
theorem D5 {a:List Doc.Term}(h:∀t∈a,t.text.length<=800)(n:Nat):(Doc.ji a n).length<=1000:=by
 have:=Dw h n;simp[Doc.ji,Doc.jH];exact aR
theorem Gd {S:Doc.dO}(a:Doc.iq S)(b c d e:Nat):(Doc.part S b c d e).length<=13000:=by
 have g:(((S.syms.take d).drop b).flatMap Doc.kS).length<=1000:=by
  refine Nat.le_trans (pF Doc.kS 100 _ (λx f=>?_)) ?_
  ·rw[qb,List.length_append];have:=vR (a.book.syms x (Js f));exact aqm
  ·have:=yn S.syms b d;have:=a.book.few;exact aR
 have h:(((S.held.take e).drop c).flatMap (Doc.ji S.terms)).length<=12000:=by
  refine Nat.le_trans (pF (Doc.ji S.terms) 1000 _ (λx _=>D5 a.book.long x)) ?_;have:=yn S.held c e;have:=a.qR;exact aR
 unfold Doc.part;exact aoA
theorem wW {S:Doc.dO}(d:Doc.iq S):∀(c:List (Nat × Nat × Nat)) (a b:Nat),(Doc.mI S c a b).length<=(c.length+1)*14000:=by
 intro c
 induction c with
 | nil=>intro a b;have:=Gd d a b S.syms.length S.held.length;simp only[Doc.mI,List.length_nil];omega
 | cons l c e=>
  intro a b;have g:=Gd d a b l.1 l.2.2;have h:=e (max a l.1) (max b l.2.2);have f:Doc.su.length=7:=rfl;simp only[Doc.mI,List.length_append,List.length_cons,f];rw[Nat.succ_mul];exact aR
structure AL (S:Doc.dO)(k f0 f2:Nat)(y:dN):Prop where
 text:y++Doc.mI S (S.levels.drop k) f0 f2=Doc.print S
 a:f0<=S.syms.length
 b:f2<=S.held.length
 le:∀l∈S.levels.drop k,f0<=l.1/\f2<=l.2.2
theorem AL.next {S:Doc.dO}{l:Nat × Nat × Nat}(h:AL S n m k x)(g:Doc.iq S)(i:S.levels[n]?=some l):m<=l.1/\k<=l.2.2/\l.1<=S.syms.length/\l.2.2<=S.held.length/\AL S (n+1) l.1 l.2.2 (x++(Doc.part S m k l.1 l.2.2++Doc.su)):=by
 obtain⟨o,p⟩:=aG i;have e:S.levels.drop n=l::S.levels.drop (n+1):=by rw[List.drop_eq_getElem_cons o,p]
 have a:l∈S.levels:=List.mem_of_getElem? i;have b:=h.le l (by rw[e];exact List.mem_cons_self);have c:=g.Bg l a;have f:(l::S.levels.drop (n+1)).Pairwise Doc.Lv.le:=by rw[<-e];exact g.mono.drop
 rw[List.pairwise_cons]at f;refine⟨b.1,b.2,c.a,c.c,⟨?_,c.a,c.c,λj a=>⟨(f.1 j a).1,(f.1 j a).2.2⟩⟩⟩;have d:=h.text;rw[e]at d;simp only[Doc.mI]at d;rw[Nat.max_eq_right b.1,Nat.max_eq_right b.2]at d;rw[<-d];exact aW
theorem AL.len {S:Doc.dO}(h:AL S n m k x)(a:Doc.iq S):x.length<=100000:=by
 have d:=wW a S.levels 0 0;have b:=congrArg List.length h.text;have c:Doc.print S=Doc.mI S S.levels 0 0:=rfl;have:=a.ve;rw[List.length_append,c]at b;have:(S.levels.length+1)*14000<=5*14000:=Nat.mul_le_mul_right _ aR;exact aR
structure tF (w wx:World)(f0 f1 f2:Nat):Prop where
 ek:dB w wx
 c0:wx.cell? (dA w.heap.size 0)=some (dw f0)
 c1:wx.cell? (dA w.heap.size 1)=some (dw f1)
 c2:wx.cell? (dA w.heap.size 2)=some (dw f2)
 fr:∀o,wx.frozen? (dA w.heap.size o)=false
 lt:w.heap.size<wx.heap.size
theorem tF.below (h:tF w W n m k)(a:dB W u):tF w u n m k:=
 ⟨h.ek.trans (a.mono (Nat.le_of_lt h.lt)),(a.dL h.c0 h.lt),(a.dL h.c1 h.lt),(a.dL h.c2 h.lt),λo=>(a.gq (h.fr o) h.lt),Nat.lt_of_lt_of_le h.lt a.size⟩
theorem tF.put (h:tF w W n m k)(d e f:Nat):tF w (((W.setCell (dA w.heap.size 0) (dw d)).setCell (dA w.heap.size 1) (dw e)).setCell (dA w.heap.size 2) (dw f)) d e f:=by
 have a:∀(b c:Nat),b≠c->((dA w.heap.size b):Addr)≠(dA w.heap.size c):=λb c h g=>h (by injection g);refine⟨((h.ek.setCell ae _).setCell ae _).setCell ae _,?_,?_,?_,?_,?_⟩
 ·rw[ax (a 2 0 aR),ax (a 1 0 aR)];exact aC h.c0
 ·rw[ax (a 2 1 aR)];exact aC ((ax (a 0 1 aR)).trans h.c1)
 ·exact aC ((ax (a 1 2 aR)).trans ((ax (a 0 2 aR)).trans h.c2))
 ·intro o;rw[World.frozen?_setCell,World.frozen?_setCell,World.frozen?_setCell];exact h.fr o
 ·simp only[World.setCell,Array.size_modify];exact h.lt
theorem UM (q k:Nat)(own:Own)(S:Doc.dO)(w:World)(r:dI w own k q S)(N:eD own w)(hk:k≠0)(u:Doc.iq S)(O:gZ w) :
 dH 35 #[dK q 0] w λv x=>v=dF (dD (Doc.print S))/\dB w x:=by
 have hR:=gU;have hl4:=u.ve;obtain⟨aL,afN,_,_,P,hcap,hmax,_,_,Q⟩:=CJ r N hk aR 0 aR
 have ajx:Hid (∀i l,S.levels[i]?=some l->∃s,aL=some (dA s 0)/\s<w.heap.size/\∀W,dB w W->W.dQ s (i*3)=some (dw l.1)/\W.dQ s (i*3+1)=some (dw l.2.1)/\W.dQ s (i*3+2)=some (dw l.2.2)):=λi l z=>by
  obtain⟨hi,hl'⟩:=aG z;subst hl';exact Q i hi
 have R:Hid (∀m G n f H g,m<=f->f<=S.syms.length->n<=g->g<=S.held.length->∀W,dB w W->dH 88 #[dK q 0,.agg #[dw (m:Nat),dw (G:Nat),dw (n:Nat)],.agg #[dw (f:Nat),dw (H:Nat),dw (g:Nat)]] W λv x=>v=dF (dD (Doc.part S m n f g))/\dB W x):=
  λm G n f H g h1 h2 h3 h4 W h=>Ll q S m G n f H g W u (r.book.below h) (r.Xc.below h) (O.below h) h1 h2 h3 h4
 have abK:Hid (∀W,dB w W->dH 89 #[dK q 0] W λv x=>v=dF (.agg #[dw S.syms.length,dw S.terms.length,dw S.held.length])/\dB W x):=λW h=>Ra q k own S W (r.below h);have T:=dn u;have uG:Hid (AL S 0 0 0 []):=⟨by simp[Doc.print],aR,aR,λl _=>⟨aR,aR⟩⟩;have U:=dn (λm n f g=>Gd u m n f g)
 have V:Hid (∀a b y,AL S S.levels.length a b y->Doc.print S=y++Doc.part S a b S.syms.length S.held.length):=λa b y h=>by
  have:=h.text;rw[List.drop_length]at this;exact this.symm
 have Yu:Hid (Doc.su=[40,112,117,115,104,41,10]):=rfl;have hsb:=r.lt;have X:Hid (tF w (w.alloc (.cells #[dw (0:Nat),dw (0:Nat),dw (0:Nat)] 133)) 0 0 0):=⟨ai,aW,aW,aW,λ_=>aW,aW⟩;have aio:=(X.o.ek).dL P hsb;generalize Doc.print S=res at *;obtain⟨L,I⟩:=aK S.levels.length;rw[I]at hl4 hcap P aio V;have HL:=dn I;clear Q r N O u I;go_enter func35,ntmps35;go_wp2_with fail
 go_loopw [3,14] (fun bg i wr=>∃(k a F b:Nat) (y:dN),i=dw k/\k<=L/\bg=dD y/\AL S k a b y/\tF w wr a F b) (fun _ i _=>L-(intOf i).toNat)
 ·exact⟨0,0,0,0,[],rfl,aR,rfl,uG.o,X.o⟩
 case round=>
  obtain⟨A,a,F,b,y,rfl,hq,rfl,j,c⟩:=hrel;have HST:=dn j;have HMB:=dn c;have hyl:=j.len T.o;have Y:=c.c0;have Z:=c.c1;have b2:=c.c2;have blt:=c.lt;have bfr:=c.fr
  by_cases hlt:A<L
  ·obtain⟨l,z⟩:∃l,S.levels[A]?=some l:=⟨_,aF (by rw[HL.o];exact hlt)⟩;obtain⟨s,rfl,hgl,J⟩:=ajx.o A l z;obtain⟨z0,z1,z2⟩:=J wr c.ek;obtain⟨y0,y1,y2⟩:=J (wr.alloc (.cells #[dw 0,dw 0,dw 0] 133)) (c.ek.fO);obtain⟨e1,e2,e3,e4,K⟩:=j.next T.o z;obtain⟨o,B,p⟩:=l;simp only at z0 z1 z2 y0 y1 y2 e1 e2 e3 e4 K;have jF:=dn K;have C:dB wr (wr.alloc (.cells #[dw o,dw B,dw p] 133)):=ai;have d:=dn (c.below C);have c0:=d.o.c0;have c1:=d.o.c1;have c2:=d.o.c2;have mq:=dn (R.o a F b o B p e1 e3 e2 e4 _ d.o.ek);have M:=U.o a b o p;obtain⟨D,E⟩:=aK (Doc.part S a b o p);rw[E]at mq M jF;clear j c J K C z E;go_wp2_with fail;refine mq.o.dX λw3 e=>?_;have t:=d.o.below e;have ajt:=dn (t.put o B p);have hs3:=e.size;simp only[World.size_alloc]at hs3;have t0:=(e.cell (p:=dA wr.heap.size 0) aW).trans (show _=some (dw (o:Int)) by simp);have t1:=(e.cell (p:=dA wr.heap.size 1) aW).trans (show _=some (dw (B:Int)) by simp);have t2:=(e.cell (p:=dA wr.heap.size 2) aW).trans (show _=some (dw (p:Int)) by simp);have v0:=t.c0;have v1:=t.c1;have v2:=t.c2;have vf:=t.fr;clear e t z0 z1 z2 y0 y1 y2 Y Z b2 c0 c1 c2 bfr;go_wp2;go_roundw
   ·exact⟨A+1,o,B,p,_,bL,aR,rfl,by have:=jF.o;rw[Yu.o]at this;exact this,ajt.o⟩
   ·exact aph
  ·have HE:=dn (V.o a b y (by rw[show L=A by omega];exact j));have HN:=dn (abK.o wr c.ek);have ha:=j.a;have hb:=j.b;have FV:=dn (λW h=>R.o a F b S.syms.length S.terms.length S.held.length ha ae hb ae W h);have M:=U.o a b S.syms.length S.held.length;obtain⟨D,E⟩:=aK (Doc.part S a b S.syms.length S.held.length);rw[E]at FV M HE;clear j c E;go_wp2_with fail;refine HN.o.dX λw3 e=>?_;have C:dB wr (w3.alloc (.cells #[dw S.syms.length,dw S.terms.length,dw S.held.length] 133)):=e.fO;have d:=dn (HMB.o.below C);have c0:=d.o.c0;have c1:=d.o.c1;have c2:=d.o.c2;clear e C Y Z b2 bfr;go_wp2_with fail;refine(FV.o _ d.o.ek).dX λw4 hb4=>?_;have rz:=dn (d.o.ek.dW hb4);clear hb4;go_wp2;go_ret;exact⟨ic HE.o.symm,rz.o⟩
theorem Sy (s:Nat)(b:Bool)(w:World):dH 287 #[dw s,.bool b] w λe a=>e=dF (dw (Doc.jv s b:Nat))/\a=w:=by
 cases b
 all_goals
  go_enter func287,ntmps287;go_wp2;go_ret;exact⟨rfl,rfl⟩
theorem iM (h:eX w (.slice a n m) l):n=l.length/\l.length<=m/\m<=2 ^ 63-1:=by
 obtain⟨_,_,c,d,b,_⟩:=h;injection c with _ e f
 subst f;unfold maxLen at b;exact⟨e,d,b⟩
theorem adX (a:List Nat)(A:eu)(p s b c:Nat)(w:World)(i:eX w (.slice A a.length p) a) :
 dH 288 #[.slice A a.length p,dw s,dw b,dw c] w λB C=>B=dF (.bool (Doc.gY a s b c))/\C=w:=by
 obtain⟨_,D,H⟩:=iM i;have E:=dn (gF i);have g:Hid (Doc.gY a s b c=(decide (b<=a.length)&&decide (a.length<=c)&&a.all (λx=>x==s))):=rfl;generalize Doc.gY a s b c=f at *;clear i;obtain⟨L,j⟩:=aK a.length;rw[j]at D g ⊢;have q:=dn j;clear j
 by_cases r:b<=L
 ·by_cases t:L<=c
  ·have d:Hid (f=a.all (λx=>x==s)):=by show _=_;rw[g.o,decide_eq_true r,decide_eq_true t];rfl
   have u:¬((L:Int)<(b:Int)):=aR;have F:¬((c:Int)<(L:Int)):=aR;go_enter func288,ntmps288;go_wp2_with fail
   go_loop [23] (fun l=>∃k:Nat,l=dw k/\k<=L/\a.all (fun x=>x==s)=(a.drop k).all (fun x=>x==s)) (fun l=>L-(intOf l).toNat)
   ·exact⟨0,rfl,aR,rfl⟩
   case round=>
    obtain⟨k,rfl,I,v⟩:=hrel;have m:=dn v;clear v
    by_cases G:k<L
    ·have h:k<a.length:=by rw[q.o];exact G
     obtain⟨z,e⟩:∃z,a[k]?=some z:=⟨_,aF h⟩;obtain⟨J,rfl,K⟩:=E.o k z e
     have y:Hid (a.drop k=z::a.drop (k+1)):=by
      show _=_;rw[List.drop_eq_getElem_cons h];rw[aF h]at e;injection e with e;rw[e]
     clear e h
     by_cases n:z=s
     ·subst n;go_wp2;go_round
      ·exact⟨k+1,bL,aR,by rw[m.o,y.o];simp⟩
      ·exact aph
     ·have M:((z:Int) !=(s:Int))=true:=aX;have o:Hid (f=false):=by show _=_;rw[d.o,m.o,y.o];simp[n]
      clear n;go_wp2;go_ret;exact⟨dS o.o.symm,rfl⟩
    ·have o:Hid (f=true):=by show _=_;rw[d.o,m.o,List.drop_eq_nil_of_le (by rw[q.o];omega)];rfl
     go_wp2;go_ret;exact⟨dS o.o.symm,rfl⟩
  ·have d:Hid (f=false):=by show _=_;rw[g.o,decide_eq_false t];simp
   have u:¬((L:Int)<(b:Int)):=aR;have F:(c:Int)<(L:Int):=aR;go_enter func288,ntmps288;go_wp2;go_ret;exact⟨dS d.o.symm,rfl⟩
 ·have d:Hid (f=false):=by show _=_;rw[g.o,decide_eq_false r];simp
  have u:(L:Int)<(b:Int):=aR;go_enter func288,ntmps288;go_wp2;go_ret;exact⟨dS d.o.symm,rfl⟩
def lF (sorts:List Nat):Nat:=if sorts.length≠3\/sorts.getD 0 0≠1\/sorts.getD 1 0≠sorts.getD 2 0 then 0 else sorts.getD 1 0
theorem JM (c:List Nat)(A:eu)(p:Nat)(w:World)(i:eX w (.slice A c.length p) c) :
 dH 289 #[.slice A c.length p] w λq r=>q=dF (dw (lF c:Nat))/\dB w r:=by
 obtain⟨_,s,u⟩:=iM i;have f:=dn (gF i);have h:Hid (∀n,dB w (w.drewN n)):=λn=>below_drewN af n;clear i
 by_cases j:c.length=3
 ·match c,j with
  | [g,b,d],_=>
   obtain⟨v,rfl,x⟩:=f.o 0 g rfl;obtain⟨t,a,y⟩:=f.o 1 b rfl;injection a with a
   injection a with a;subst a;obtain⟨t,a,z⟩:=f.o 2 d rfl;injection a with a;injection a with a;subst a;simp only[List.length_cons,List.length_nil]at s ⊢;clear f
   by_cases k:g=1
   ·subst k
    by_cases l:b=d
    ·subst l;have e:Hid (lF [1,b,b]=b):=by show _=_;simp[lF]
     generalize lF [1,b,b]=m at *;have o:((b:Int) !=(b:Int))=false:=aW;go_enter func289,ntmps289;go_wp2_with fail;go_quiet (fail);go_wp2;go_ret;exact⟨fM (by rw[e.o]),h.o _⟩
    ·have e:Hid (lF [1,b,d]=0):=by show _=_;simp[lF,l]
     generalize lF [1,b,d]=m at *;have o:((b:Int) !=(d:Int))=true:=aX;clear l;exact apU
   ·have e:Hid (lF [g,b,d]=0):=by show _=_;simp[lF,k]
    generalize lF [g,b,d]=m at *;have o:((g:Int) !=1)=true:=aX;clear k;exact apU
 ·have e:Hid (lF c=0):=by show _=_;simp[lF,j]
  generalize lF c=m at *;have o:((c.length:Int) !=3)=true:=aX;clear f j;generalize c.length=L at *;exact apU
theorem mF (h:n=m):Ending.returned (dw (n:Int))=dF (dw (m:Int)):=by rw[h]
theorem Gf (b:Nat)(a:List Nat)(A:eu)(p:Nat)(w:World)(j:eX w (.slice A a.length p) a)(P:5<=b)(Q:b<=19) :
 dH 272 #[dw b,.slice A a.length p] w λe f=>e=dF (dw (Doc.gH b a:Nat))/\dB w f:=by
 have i:=λF G H=>adX a A p F G H w j;have u:=dn (i 1 1 1);have q:=dn (i 1 2 4);have r:=dn (i 1 2 2);have s:=dn (i 2 2 4);have v:=dn (i 3 2 4);have k:=dn (i 2 2 2);have x:=dn (i 2 1 2);have d:=dn Sy;have t:=dn (JM a A p w j);obtain⟨_,I,R⟩:=iM j;have h:Hid (dB w w):=af;have y:Hid (∀z,dB w (w.drewN z)):=λz=>below_drewN af z
 by_cases J:b=10
 ·subst J
  by_cases B:a.length=2
  ·match a,B with
   | [l,m],_=>
    obtain⟨S,rfl,T⟩:=gF j 0 l rfl;obtain⟨U,n,V⟩:=gF j 1 m rfl;injection n with n
    injection n with n;subst n;clear j i u q r s v k x t;simp only[List.length_cons,List.length_nil]at I ⊢
    have K:((l:Int)==(m:Int))=(l==m):=by
     by_cases o:l=m
     ·subst o;exact aW
     ·rw[beq_eq_false_iff_ne.2 o,beq_eq_false_iff_ne];exact aR
    have c:Hid (Doc.gH 10 [l,m]=Doc.jv 1 (l==m)):=rfl;rw[c.o];cases o:(l==m)
    all_goals
     rw[o]at K;clear o c;exact aqa
  ·have c:Hid (Doc.gH 10 a=Doc.jv 1 false):=by show _=_;simp[Doc.gH,B]
   have W:((a.length:Int)==2)=false:=ak aR;rw[c.o];clear j i u q r s v k x t B c;generalize a.length=X at *;exact aqa
 ·by_cases L:b=16
  ·subst L;have c:Hid (Doc.gH 16 a=lF a):=rfl;rw[c.o];clear j i;go_enter func272,ntmps272;go_wp2_with fail;refine t.o.dX λg C=>?_;have M:=dn C;clear C;go_wp2;go_ret;exact⟨rfl,M.o⟩
  ·by_cases N:b=11
   ·subst N;have c:Hid (Doc.gH 11 a=Doc.jv 1 (Doc.gY a 2 2 4||Doc.gY a 3 2 4)):=rfl;rw[c.o];clear j i c;generalize Doc.gY a 2 2 4=D at *;generalize Doc.gY a 3 2 4=O at *;cases D
    all_goals
     go_enter func272,ntmps272;go_wp2_with fail;refine s.o.mono ?_;rintro e g ⟨rfl,rfl⟩;go_wp2_with (first|(go_at_call 288;refine v.o.mono ?_;rintro e g ⟨rfl,rfl⟩)|(go_at_call 287;refine(d.o 1 _ _).mono ?_;rintro e f ⟨rfl,rfl⟩));go_ret;exact⟨rfl,h.o⟩
   ·have E:b=5\/b=6\/b=7\/b=8\/b=9\/b=12\/b=13\/b=14\/b=15\/b=17\/b=18\/b=19:=aR
    have c:Hid (Doc.gH b a=if b=5 then Doc.jv 1 (Doc.gY a 1 1 1) else if b=6\/b=7 then Doc.jv 1 (Doc.gY a 1 2 4) else if b=8\/b=9 then Doc.jv 1 (Doc.gY a 1 2 2) else if b=12\/b=13\/b=14\/b=15 then Doc.jv 1 (Doc.gY a 2 2 2) else if b=17 then Doc.jv 2 (Doc.gY a 2 2 4) else if b=18 then Doc.jv 2 (Doc.gY a 2 1 2) else Doc.jv 2 (Doc.gY a 2 2 2)):=by
     show _=_;rcases E with rfl|rfl|rfl|rfl|rfl|rfl|rfl|rfl|rfl|rfl|rfl|rfl<;>simp[Doc.gH]
    clear j i t y;generalize Doc.gH b a=Y at *;generalize Doc.gY a 1 1 1=D at *;generalize Doc.gY a 1 2 4=O at *;generalize Doc.gY a 1 2 2=Z at *;generalize Doc.gY a 2 2 4=b4 at *;generalize Doc.gY a 2 2 2=b6 at *;generalize Doc.gY a 2 1 2=b7 at *;rcases E with rfl|rfl|rfl|rfl|rfl|rfl|rfl|rfl|rfl|rfl|rfl|rfl
    ·go_enter func272,ntmps272;go_wp2_with (first|(go_at_call 288;refine u.o.mono ?_;rintro e g ⟨rfl,rfl⟩)|(go_at_call 287;refine(d.o 1 _ _).mono ?_;rintro e f ⟨rfl,rfl⟩));go_ret;exact⟨mF amj,h.o⟩
    ·exact apW
    ·exact apW
    ·exact apV
    ·exact apV
    ·exact apy
    ·exact apy
    ·exact apy
    ·exact apy
    ·go_enter func272,ntmps272;go_wp2_with (first|(go_at_call 288;refine s.o.mono ?_;rintro e g ⟨rfl,rfl⟩)|(go_at_call 287;refine(d.o 2 _ _).mono ?_;rintro e f ⟨rfl,rfl⟩));go_ret;exact⟨mF amj,h.o⟩
    ·go_enter func272,ntmps272;go_wp2_with (first|(go_at_call 288;refine x.o.mono ?_;rintro e g ⟨rfl,rfl⟩)|(go_at_call 287;refine(d.o 2 _ _).mono ?_;rintro e f ⟨rfl,rfl⟩));go_ret;exact⟨mF amj,h.o⟩
    ·go_enter func272,ntmps272;go_wp2_with (first|(go_at_call 288;refine k.o.mono ?_;rintro e g ⟨rfl,rfl⟩)|(go_at_call 287;refine(d.o 2 _ _).mono ?_;rintro e f ⟨rfl,rfl⟩));go_ret;exact⟨mF amj,h.o⟩
end Go.Proofs.YtjiagbaaikifpaaGreatDoor
namespace Doc
variable {g:List Sym}{q:List Term}
theorem Ic:∀f∈forms,eG f.op=18->(f.op=15/\f.least=1/\f.most=1)\/(f.op=17/\f.least=2/\f.most=2):=aY
theorem aaJ:∀f∈forms,5<=eG f.op:=aY
theorem Ku {t:Term}(d:Made g q t):(eG t.op=18/\t.args.length=1)↔t.op=15:=by
 rcases d with ⟨h,a,_,_⟩|⟨h,a,_,_,_⟩|⟨h,_,_,_⟩|⟨f,b,h,_,a,_,_⟩
 ·rw[a];simp;rcases h with h|h<;>omega
 ·rw[a];exact aX
 ·rw[h];simp[eG]
 ·have m:=jO a;rw[h];constructor
  ·rintro ⟨i,n⟩;rcases Ic f b i with ⟨e,_⟩|⟨_,j,k⟩
   ·exact e
   ·exact aR
  ·intro l;have c:eG f.op=18:=by rw[l];rfl
   rcases Ic f b c with ⟨_,j,k⟩|⟨e,_⟩
   ·exact⟨c,aR⟩
   ·exact aR
theorem zG {t:Term}(b:Made g q t):eG t.op=3↔t.op=14:=by
 have:=yt b;constructor
 ·intro h;rcases b with ⟨a,_⟩|⟨a,_⟩|⟨a,_⟩|⟨f,c,a,_⟩
  ·rcases a with a|a<;>rw[a]at h<;>cases h
  ·exact a
  ·rw[a]at h;cases h
  ·have:=aaJ f c;rw[a]at h;exact aR
 ·intro h;exact aoK
end Doc
namespace Go.Proofs.YtjiagbaaikifpaaGreatDoor
open Go.RowKit Go.Proofs.Tryz
variable {U W u w:World}{k m n:Nat}{l:List Nat}{v:Value}
def Zo (w:World)(B:Nat)(v0 v1 v2 v3 v4:Value):World:=((((w.setCell (dA B 0) v0).setCell (dA B 1) v1).setCell (dA B 2) v2).setCell (dA B 3) v3).setCell (dA B 4) v4
theorem V9 {v0 v1 v2 v3 v4:Value}(h:w.cell? (dA n 0)=some v):(Zo w n v0 v1 v2 v3 v4).cell? (dA n 0)=some v0:=by
 have a:∀(b:Nat),b≠0->((dA n b):Addr)≠(dA n 0):=λb h e=>h anS;unfold Zo;rw[ax (a 4 aR),ax (a 3 aR),ax (a 2 aR),ax (a 1 aR)];exact aC h
theorem SF {v0 v1 v2 v3 v4:Value}(h:Below n w W)(a:n<=m):Below n w (Zo W m v0 v1 v2 v3 v4):=((((h.setCell a _).setCell a _).setCell a _).setCell a _).setCell a _
theorem Dj (a b:Nat)(A:eu)(p:Nat)(w:World)(h:eX w (.slice A 2 p) [a,b]) :
 dH 274 #[.slice A 2 p] w λf d=>(∃e,f=dF (dJ w.heap.size 2 e)/\eX d (dJ w.heap.size 2 e) [b,a])/\dB w d:=by
 obtain⟨_,g,l⟩:=iM h;obtain⟨m,rfl,o⟩:=gF h 0 a rfl;obtain⟨q,c,r⟩:=gF h 1 b rfl;injection c with c
 injection c with c;subst c;simp only[List.length_cons,List.length_nil]at g
 have i:Hid (∀n,eX ((w.alloc (.cells #[dw (b:Int),dw (a:Int)] 3)).drewN n) (dJ w.heap.size 2 2) [b,a]):=λn=>by
  refine⟨_,_,rfl,aW,bz,λj hi=>⟨w.heap.size,rfl,λh=>?_⟩⟩
  match j,h with
  | 0,_=>simp
  | 1,_=>simp
 have k:Hid (∀n,dB w ((w.alloc (.cells #[dw (b:Int),dw (a:Int)] 3)).drewN n)):=λn=>below_drewN ai n;clear h;go_enter func274,ntmps274;go_wp2_with fail;go_region
 all_goals
  go_wp2;go_ret;exact⟨⟨_,rfl,i.o _⟩,k.o _⟩
theorem Jy (G x:Nat)(y:List Doc.Sym)(a:List Doc.Term)(n:Nat)(w:World)(S:w.dQ G 0=some (dK x 0))(z:rV w x y a)(A:Doc.iB y a)(B:n<a.length) :
 dH 290 #[dK G 0,dw n] w λbg w'=>bg=dF (.bool (Doc.number a n))/\dB w w':=by
 have hol:=aj S;have g:=A.terms n B;obtain⟨T,i,l,H⟩:=tC x y a n w z B;have m:=dn (H w af);obtain⟨_,C,k2⟩:=iM l;have I:Doc.qa a n=a[n].op:=by unfold Doc.qa;rw[aF B]
 have J:Doc.qO a n=a[n].args:=by unfold Doc.qO;rw[aF B]
 have U:Hid (Doc.number a n=if a[n].op=15 then Doc.qa a (a[n].args.getD 0 0)==14 else a[n].op==14):=by show _=_;unfold Doc.number;rw[I,J]
 generalize Doc.number a n=V at *
 by_cases o:a[n].op=15
 ·obtain⟨X,K⟩:=(Doc.Ku g.made).2 o
  obtain⟨b,p⟩:∃b,a[n].args=[b]:=by
   match hx:a[n].args,K with
   | [b],_=>exact⟨b,rfl⟩
  have M:b<a.length:=aP (g.args b (by rw[p];simp));have N:=A.terms b M;obtain⟨aB,Oy,ae2,Y⟩:=tC x y a b w z M;have HT2:=dn Y
  have D:Hid (V=(Doc.eG a[b].op==3)):=by
   show _=_;rw[U.o,if_pos o,p];have e1:Doc.qa a ([b].getD 0 0)=a[b].op:=by show Doc.qa a b=_;unfold Doc.qa;rw[aF M]
   rw[e1]
   by_cases e:a[b].op=14
   ·rw[(Doc.zG N.made).2 e,e];rfl
   ·rw[beq_eq_false_iff_ne.2 e,beq_eq_false_iff_ne.2 (λh=>e ((Doc.zG N.made).1 h))]
  rw[p,X]at m;rw[p]at l;obtain⟨t,rfl,_⟩:=gF l 0 b rfl
  have HG:Hid (∀W,dB w W->W.dQ t 0=some (dw (b:Int))):=λW h=>by
   obtain⟨g',u,O⟩:=gF (l.below h) 0 b rfl;injection u with u
   injection u with u;subst u;exact O
  simp only[List.length_cons,List.length_nil]at m
  have hsw:((Doc.eG a[b].op:Int)==3)=(Doc.eG a[b].op==3):=by
   by_cases v:Doc.eG a[b].op=3
   ·rw[v];rfl
   ·rw[beq_eq_false_iff_ne.2 v,beq_eq_false_iff_ne];exact aR
  generalize Doc.eG a[b].op=q at *;have zT:1<=i:=by rw[p]at C;simpa using C
  clear l ae2 H Y z A g N o C I J X K p;go_enter func290,ntmps290;go_wp2_with fail;refine m.o.dX λc d=>?_;have Z:=d.size;have E:dB w (c.alloc (.cells #[dw 18,dw a[n].sym,dw (Doc.fP a[n]:Nat),dJ t 1 i,dw a[n].sort] 226)):=d.alloc Z _;have f:=dn E;have o1:=E.dL S hol;have O:=HG.o _ E;have ak4:G<c.heap.size:=aR;clear d E;go_upto_region 3 with fail;generalize F:c.alloc (.cells #[dw 18,dw a[n].sym,dw (Doc.fP a[n]:Nat),dJ t 1 i,dw a[n].sort] 226)=P at *;have r:∀j Q,(c.alloc (.cells #[dw 18,dw a[n].sym,dw (Doc.fP a[n]:Nat),dJ t 1 i,dw a[n].sort] 226)).dQ c.heap.size j=some Q->P.dQ c.heap.size j=some Q:=λj Q h=>by rw[<-F];exact h
  have b0:=r 0 (dw 18) aW;have b1:=r 1 (dw a[n].sym) aW;have b2:=r 2 (dw (Doc.fP a[n]:Nat)) aW;have b3:=r 3 (dJ t 1 i) aW;have b4:=r 4 (dw a[n].sort) aW;have bf:∀j,P.uV c.heap.size j=false:=λj=>by rw[<-F];simp
  have s:c.heap.size<P.heap.size:=by rw[<-F];simp
  clear r F;go_cut [] (fun wx=>wx.dQ c.heap.size 0=some (dw (q:Int))/\dB w wx)
  case first=>
   go_region_with (go_at_call 179;refine(HT2.o _ (by first|exact f.o|exact f.o.drew)).dX fun w2 k=>?_;have q0:=k.dL b0 s;have q1:=k.dL b1 s;have q2:=k.dL b2 s;have q3:=k.dL b3 s;have q4:=k.dL b4 s;have qf:∀j,w2.uV c.heap.size j=false:=fun j=>(k.gq (bf j) s))
   all_goals
    have HZ0:=dn (V9 (v0:=dw (q:Int)) (v1:=dw a[b].sym) (v2:=dw (Doc.fP a[b]:Nat)) (v3:=.slice aB a[b].args.length Oy) (v4:=dw a[b].sort) q0);have HZ1:=dn (λv0 v1 v2 v3 v4=>SF (v0:=v0) (v1:=v1) (v2:=v2) (v3:=v3) (v4:=v4) (f.o.trans ((af.drew.trans k).mono f.o.size)) Z);go_wp2;go_meet
    ·exact⟨HZ0.o,HZ1.o _ _ _ _ _⟩
  case rest=>
   obtain⟨z0,z1⟩:=hcut;have HZ:=dn z1;clear z1 b0 b1 b2 b3 b4 bf o1 O;go_wp2;go_ret;exact⟨dS (by rw[D.o]),HZ.o⟩
 ·have D:Hid (V=(Doc.eG a[n].op==3)):=by
   show _=_;rw[U.o,if_neg o]
   by_cases e:a[n].op=14
   ·rw[(Doc.zG g.made).2 e,e];rfl
   ·rw[beq_eq_false_iff_ne.2 e,beq_eq_false_iff_ne.2 (λh=>e ((Doc.zG g.made).1 h))]
  have hsw:((Doc.eG a[n].op:Int)==3)=(Doc.eG a[n].op==3):=by
   by_cases v:Doc.eG a[n].op=3
   ·rw[v];rfl
   ·rw[beq_eq_false_iff_ne.2 v,beq_eq_false_iff_ne];exact aR
  have R:¬(Doc.eG a[n].op=18/\a[n].args.length=1):=λh=>o ((Doc.Ku g.made).1 h);generalize Doc.eG a[n].op=q at *;obtain⟨L,hL⟩:=aK (a[n].args.length);rw[hL]at R m C;clear hL l H z A g o I J
  by_cases h18:q=18
  ·have K:((L:Int)==1)=false:=ak aR;subst h18;clear R;go_enter func290,ntmps290;go_wp2_with fail;refine m.o.dX λc d=>?_;have f:=dn (d.alloc d.size (.cells #[dw (18:Nat),dw a[n].sym,dw (Doc.fP a[n]:Nat),.slice T L i,dw a[n].sort] 226));clear d;go_wp2;go_ret;exact⟨dS (by rw[D.o];rfl),f.o⟩
  ·have aly:((q:Int)==18)=false:=ak aR;clear R h18;go_enter func290,ntmps290;go_wp2_with fail;refine m.o.dX λc d=>?_;have f:=dn (d.alloc d.size (.cells #[dw (q:Nat),dw a[n].sym,dw (Doc.fP a[n]:Nat),.slice T L i,dw a[n].sort] 226));clear d;go_wp2;go_ret;exact⟨dS (by rw[D.o]),f.o⟩
theorem vG (w:World)(x:Value)(t:TypeId)(n:Nat)(a:n=w.heap.size):∀j u,[x][j]?=some u->(w.alloc (.cells #[x] t)).cell? (((dA n 0):Addr).add j)=some u:=by
 subst a;exact cell_one_new w x t
theorem G8 (h:l[n]?=some m):ja (l.take (n+1))=ja (l.take n)++[dw (m:Int)]:=by
 rw[List.take_add_one,h];simp[ja]
theorem Qg (B k:Nat)(C:List Doc.Sym)(b:List Doc.Term)(c:List Nat)(D:eu)(E:Nat)(w:World)(F:w.dQ B 0=some (dK k 0))(G:rV w k C b)(d:eX w (.slice D c.length E) c)(H:∀a∈c,a<b.length)(hL:c.length<=1000000) :
 dH 271 #[dK B 0,.slice D c.length E] w λp l=>E5 l w.heap.size (c.map (Doc.dY b)) p/\dB w l:=by
 obtain⟨i0,hi0,hz0,hz1,hz2⟩:=info_parts nk;have hol:=aj F;obtain⟨_,k1,k2⟩:=iM d;have YD:=dn (λW (h:dB w W)=>gF (d.below h));have HO:=dn (λW (h:dB w W)=>(h.dL F hol))
 have I:Hid (∀i a,c[i]?=some a->∃q r s e t f,(c.map (Doc.dY b))[i]?=some (Doc.dY b a)/\∀W,dB w W->dH 179 #[dK k 0,dw (a:Nat)] W λp l=>p=dF (.agg #[dw (q:Nat),dw (r:Nat),dw (s:Nat),.slice e t f,dw (Doc.dY b a:Nat)])/\dB W l):=λi a h=>by
  have J:=H a (List.mem_of_getElem? h);obtain⟨e,f,_,ht⟩:=tC k C b a w G J;refine⟨Doc.eG b[a].op,b[a].sym,Doc.fP b[a],e,b[a].args.length,f,?_,λW hW=>?_⟩
  ·rw[List.getElem?_map,h];rfl
  ·rw[uZ J];exact ht W hW
 have n:(c.map (Doc.dY b)).length=c.length:=aW;obtain⟨L,u⟩:=aK c.length;rw[u]at n k1 hL ⊢;have HL:=dn u;obtain⟨g,K⟩:=aK (c.map (Doc.dY b));rw[K]at I n ⊢;have M:=dn n;clear G d H n K u;go_enter func271,ntmps271;go_wp2_with fail
 go_loopw [5,11] (fun bg i wr=>∃m:Nat,i=dw m/\m<=L/\wr.ownsRow w.heap.size 3 1 bg m (ja (g.take m))/\dB w wr) (fun _ i _=>L-(intOf i).toNat)
 ·exact⟨0,rfl,aR,World.ownsRow_nil _ _ _ _,af⟩
 case round=>
  obtain⟨m,rfl,hm,v,j⟩:=hrel;have N:=dn v;have O:=dn j;obtain⟨P,Q,rfl,hv1,hv2⟩:=ik v;have o1:=HO.o wr j;clear v
  by_cases hlt2:m<L
  ·have R:m<c.length:=by rw[HL.o];exact hlt2
   obtain⟨a,d⟩:∃a,c[m]?=some a:=⟨_,aF R⟩;obtain⟨bq,rfl,d1⟩:=YD.o wr j m a d;obtain⟨q,r,s,e,t,f,S,T⟩:=I.o m a d;have U:=dn (T wr j);have V:=dn (G8 S);obtain⟨o,X⟩:=aK (Doc.dY b a);rw[X]at U V;clear T d S X R j;go_wp2_with fail;refine U.o.dX λw1 x=>?_;have y:=x.alloc x.size (.cells #[dw (q:Nat),dw (r:Nat),dw (s:Nat),.slice e t f,dw (o:Nat)] 226);have Y:=dn (O.o.dW y);have Z:=dn (ownsRow_below N.o y);have hs2:=Y.o.size;simp only[World.size_alloc]at hs2;clear x y;go_wp2_with (at_builtin;refine dU rfl (.tmp 21) (.tmp 24) 57 rfl w.heap.size 3 i0 (dw 0) 1 8 underlying57 hi0 hz0 hz1 hz2 rfl aY (.slice P m Q) m (ja (g.take m)) rfl (by exact Z.o.alloc _) (dA (w1.heap.size+1) 0) 1 [dw (o:Int)] rfl rfl (by exact vG _ _ _ _ aW) bX bz aR aX ?_;intro ga fD z hown' hgrow hg1 hg2;have HB3:Hid (dB w z):=(Y.o.fO).grown hgrow aX (λbn hx=>(Z.o.lt bn hx).1))
   have tJ:Hid (z.ownsRow w.heap.size 3 1 (dJ ga (m+1) fD) (m+1) (ja (g.take (m+1)))):=by
    show z.ownsRow _ _ _ _ _ _;rw[V.o];exact hown'
   clear hown' hgrow hg1 hg2;go_wp2;go_roundw
   ·exact⟨m+1,bL,aR,tJ.o,HB3.o⟩
   ·exact aph
  ·go_wp2;go_ret;have hmL:m=L:=aR;subst hmL;have h:=N.o;rw[List.take_of_length_le (by rw[M.o];exact ae)]at h;have A:=M.o;refine⟨⟨P,Q,?_,by rw[A];exact hv1,hv2,by rw[A];exact h⟩,O.o⟩;rw[A];rfl
theorem kI {u0 u1 u2 u3 u4:Value}(m:w.cell? (dA n 0)=some u0)(p:w.cell? (dA n 1)=some u1)(q:w.cell? (dA n 2)=some u2)(r:w.cell? (dA n 3)=some u3)(s:w.cell? (dA n 4)=some u4)(f g i j k:Value) :
 ∃c,((((w.setCell (dA n 0) f).setCell (dA n 1) g).setCell (dA n 2) i).setCell (dA n 3) j).setCell (dA n 4) k=c/\c.cell? (dA n 0)=some f/\c.cell? (dA n 1)=some g/\c.cell? (dA n 2)=some i/\c.cell? (dA n 3)=some j/\c.cell? (dA n 4)=some k/\Below n w c/\∀b,b≠n->c.heap[b]?=w.heap[b]?:=by
 have t:∀(a b:Nat),a≠b->((dA n a):Addr)≠(dA n b):=λa b h x=>h (by injection x);have o:∀(w:World) (a b:Nat) (v u:Value),a≠b->w.cell? (dA n b)=some u->(w.setCell (dA n a) v).cell? (dA n b)=some u:=λw a b v u h y=>(ax (t a b h)).trans y;have d:∀(l:World) (a:Nat) (v:Value),Below n w l->Below n w (l.setCell (dA n a) v):=λ_ _ _ h=>h.setCell ae _;refine⟨_,rfl,?_,?_,?_,?_,?_,d _ _ _ (d _ _ _ (d _ _ _ (d _ _ _ (d _ _ _ af)))),?_⟩
 ·exact o _ 4 0 _ _ aR (o _ 3 0 _ _ aR (o _ 2 0 _ _ aR (o _ 1 0 _ _ aR (aC m))))
 ·exact o _ 4 1 _ _ aR (o _ 3 1 _ _ aR (o _ 2 1 _ _ aR (aC (o _ 0 1 _ _ aR p))))
 ·exact o _ 4 2 _ _ aR (o _ 3 2 _ _ aR (aC (o _ 1 2 _ _ aR (o _ 0 2 _ _ aR q))))
 ·exact o _ 4 3 _ _ aR (aC (o _ 2 3 _ _ aR (o _ 1 3 _ _ aR (o _ 0 3 _ _ aR r))))
 ·exact aC (o _ 3 4 _ _ aR (o _ 2 4 _ _ aR (o _ 1 4 _ _ aR (o _ 0 4 _ _ aR s))))
 ·intro b e;rw[aD e,aD e,aD e,aD e,aD e]
theorem eX.of_block (h:eX w (dJ n m k) l)(b:W.heap[n]?=w.heap[n]?):eX W (dJ n m k) l:=by
 obtain⟨q,r,e,c,d,f⟩:=h;injection e with g j o
 subst g j o;refine⟨_,_,rfl,c,d,λi hi=>?_⟩;obtain⟨s,a,p⟩:=f i hi;injection a with a;injection a with a;subst a;exact⟨_,rfl,λh=>(World.cell?_of_block (w:=w) (a:=dA _ i) b).trans (p h)⟩
def kW:Value:=.agg #[dw 0,dw 0,dw 0,dE,dw 0]
def yA (w w':World)(Aa:eu)(R:Except Nat Doc.Term)(e:Ending):Prop:=match R with
 | .ok t=>∃A p,e=dF (dM #[.agg #[dw (Doc.eG t.op:Nat),dw t.sym,dw (Doc.fP t:Nat),.slice A t.args.length p,dw t.sort],dw 0])/\eX w' (.slice A t.args.length p) t.args/\(A=Aa\/∃g,A=some (dA g 0)/\w.heap.size<=g)
 | .error er=>e=dF (dM #[kW,dw (er:Nat)])
structure AB (w wx:World):Prop where
 c0:wx.cell? (dA w.heap.size 0)=some (dw 0)
 c1:wx.cell? (dA w.heap.size 1)=some (dw 0)
 c2:wx.cell? (dA w.heap.size 2)=some (dw 0)
 c3:wx.cell? (dA w.heap.size 3)=some (dE)
 c4:wx.cell? (dA w.heap.size 4)=some (dw 0)
 fr:∀j,wx.frozen? (dA w.heap.size j)=false
 lt:w.heap.size<wx.heap.size
 ek:dB w wx
theorem AB.start (w:World):AB w (w.alloc (.cells #[dw 0,dw 0,dw 0,dE,dw 0] 226)):=
 ⟨aW,aW,aW,aW,aW,λj=>aW,aW,ai⟩
theorem AB.below (h:AB w W)(a:dB W u):AB w u:=
 ⟨(a.dL h.c0 h.lt),(a.dL h.c1 h.lt),(a.dL h.c2 h.lt),(a.dL h.c3 h.lt),(a.dL h.c4 h.lt),λj=>(a.gq (h.fr j) h.lt),Nat.lt_of_lt_of_le h.lt a.size,h.ek.trans (a.mono (Nat.le_of_lt h.lt))⟩
def BX (ts:List Doc.Term)(a b:Nat):Except Nat Doc.Term:=
 if Doc.number ts a=true then .ok ⟨Doc.written ts [42] [a,b],18,2,0,[a,b]⟩
 else if Doc.number ts b=true then .ok ⟨Doc.written ts [42] [b,a],18,2,0,[b,a]⟩ else .error 8
theorem Qm (I O:Nat)(P:List Doc.Sym)(d:List Doc.Term)(b c:Nat)(A:eu)(p:Nat)(w:World)(X:w.dQ I 0=some (dK O 0))(Y:rV w O P d)(Z:Doc.iB P d)(h:eX w (.slice A 2 p) [b,c])(hal:b<d.length)(hbl:c<d.length) :
 dH 273 #[dK I 0,.slice A 2 p] w λl i=>yA w i A (BX d b c) l/\dB w i:=by
 have hol:=aj X;obtain⟨_,k1,k2⟩:=iM h;simp only[List.length_cons,List.length_nil]at k1;have HIA:=dn h
 have Q:Hid (∀q,q<d.length->∀W,dB w W->dH 290 #[dK I 0,dw (q:Nat)] W λl i=>l=dF (.bool (Doc.number d q))/\dB W i):=
  λq hn W j=>Jy I O P d q W ((j.dL X hol)) (Y.below j) Z hn
 have La:Hid (∀W,dB w W->dH 274 #[.slice A 2 p] W λl i=>(∃r,l=dF (dJ W.heap.size 2 r)/\eX i (dJ W.heap.size 2 r) [c,b])/\dB W i):=λW j=>Dj b c A p W (h.below j);obtain⟨J,rfl,_⟩:=gF h 0 b rfl
 have R:Hid (∀W,dB w W->W.dQ J 0=some (dw (b:Int))/\W.dQ J 1=some (dw (c:Int))):=λW j=>by
  obtain⟨g',e,K⟩:=gF (h.below j) 0 b rfl;injection e with e
  injection e with e;subst e;obtain⟨g',e,L⟩:=gF (h.below j) 1 c rfl;injection e with e;injection e with e;subst e;exact⟨K,L⟩
 have s:=dn (AB.start w);obtain⟨K,L⟩:=R.o _ s.o.ek;have S:Hid (BX d b c=if Doc.number d b=true then .ok ⟨Doc.written d [42] [b,c],18,2,0,[b,c]⟩ else if Doc.number d c=true then .ok ⟨Doc.written d [42] [c,b],18,2,0,[c,b]⟩ else .error 8):=rfl;generalize BX d b c=T at *;have m:=dn (Q.o b hal _ s.o.ek);have M:=dn (Q.o c hbl);clear h Y Z Q;cases hna:Doc.number d b
 ·cases hnb:Doc.number d c
  ·have t:Hid (T=.error 8):=by show _=_;rw[S.o,hna,hnb];rfl
   rw[hna]at m;rw[hnb]at M;clear hna hnb;go_enter func273,ntmps273;go_wp2_with fail;refine m.o.dX λw1 f=>?_;have k:=s.o.below f;have u:=dn k;obtain⟨K,L⟩:=R.o _ k.ek;clear f k;go_wp2_with fail;refine(M.o _ u.o.ek).dX λU v=>?_;have a:=u.o.below v;have N:=dn a;have x:=a.c0;have y:=a.c1;have z:=a.c2;have B:=a.c3;have C:=a.c4;have cf:=a.fr;obtain⟨wz,hwz,D,E,F,G,H,g,n⟩:=kI x y z B C (dw 0) (dw 0) (dw 0) (dE) (dw 0);have o:=dn (a.ek.trans g);clear v a g n;go_wp2;exact dR (dM #[kW,dw 8]) (by simp[results,results273,go_sem,kW,D,E,F,G,H]) rfl ⟨by rw[t.o];rfl,o.o⟩
  ·have t:Hid (T=.ok ⟨Doc.written d [42] [c,b],18,2,0,[c,b]⟩):=by show _=_;rw[S.o,hna,hnb];rfl
   rw[hna]at m;rw[hnb]at M;clear hna hnb;go_enter func273,ntmps273;go_wp2_with fail;refine m.o.dX λw1 f=>?_;have k:=s.o.below f;have u:=dn k;obtain⟨K,L⟩:=R.o _ k.ek;clear f k;go_wp2_with fail;refine(M.o _ u.o.ek).dX λU v=>?_;have a:=u.o.below v;have N:=dn a;clear v a;go_wp2_with fail;refine(La.o _ N.o.ek).mono ?_;rintro l w3 ⟨⟨r,rfl,hints⟩,hb3⟩;have hlt2:=N.o.lt;have a:=N.o.below hb3;have x:=a.c0;have y:=a.c1;have z:=a.c2;have B:=a.c3;have C:=a.c4;have cf:=a.fr;obtain⟨wz,hwz,D,E,F,G,H,g,n⟩:=kI x y z B C (dw 19) (dw 0) (dw 0) (dJ U.heap.size 2 r) (dw 2);have o:=dn (a.ek.trans g);have V:=dn (hints.of_block (n _ aR));clear hb3 a g n hints;go_wp2;exact dR (dM #[.agg #[dw 19,dw 0,dw 0,dJ U.heap.size 2 r,dw 2],dw 0]) ao8 rfl ⟨by rw[t.o];exact⟨_,_,rfl,V.o,.inr ⟨_,rfl,aR⟩⟩,o.o⟩
 ·have t:Hid (T=.ok ⟨Doc.written d [42] [b,c],18,2,0,[b,c]⟩):=by show _=_;rw[S.o,hna];rfl
  rw[hna]at m;clear hna;go_enter func273,ntmps273;go_wp2_with fail;refine m.o.dX λw1 f=>?_;have a:=s.o.below f;have x:=a.c0;have y:=a.c1;have z:=a.c2;have B:=a.c3;have C:=a.c4;have cf:=a.fr;obtain⟨wz,hwz,D,E,F,G,H,g,n⟩:=kI x y z B C (dw 19) (dw 0) (dw 0) (dJ J 2 p) (dw 2);have o:=dn (a.ek.trans g);have V:=dn (HIA.o.below o.o);clear f a g n;go_wp2;exact dR (dM #[.agg #[dw 19,dw 0,dw 0,dJ J 2 p,dw 2],dw 0]) ao8 rfl ⟨by rw[t.o];exact⟨_,_,rfl,V.o,.inl rfl⟩,o.o⟩
theorem Ih (b c d e a:Value)(w:World):(Instr.field 226 (.agg #[b,c,d,e,a]) 4).run prog w=.ok a w:=by
 first
 | (simp[Instr.field,run_underlying underlying226,go_sem];done)
 | kernel_rfl
def mZ (ss:List Doc.Sym)(ts:List Doc.Term)(s:Nat)(args:List Nat):Except Nat Doc.Term:=
 if args.length=0\/args.length≠(Doc.iD ss s).length then .error 7
 else if args.map (Doc.dY ts)≠Doc.iD ss s then .error 7
 else .ok ⟨Doc.written ts (Doc.lC ss s) args,13,Doc.iW ss s,s,args⟩
theorem BQ {a:List Doc.Sym}(h:n<a.length):Doc.iD a n=a[n].args:=by unfold Doc.iD;rw[aF h]
theorem GX {a:List Doc.Sym}(h:n<a.length):Doc.iW a n=a[n].sort:=by unfold Doc.iW;rw[aF h]
structure P6 (w w1 wx:World)(tk:Value)(so:Nat):Prop where
 z:AB w wx
 t:wx.cell? (dA w1.heap.size 1)=some tk
 s:wx.cell? (dA w1.heap.size 2)=some (dw so)
 lt:w1.heap.size<wx.heap.size
theorem P6.below (h:P6 w W u v n)(a:dB u U):P6 w W U v n:=
 ⟨h.z.below a,(a.dL h.t h.lt),(a.dL h.s h.lt),Nat.lt_of_lt_of_le h.lt a.size⟩
theorem Fb (ob C:Nat)(e:List Doc.Sym)(c:List Doc.Term)(s:Nat)(b:List Nat)(D:eu)(N:Nat)(w:World)(ho:w.dQ ob 0=some (dK C 0))(X:rV w C e c)(O:eX w (.slice D b.length N) b)(Y:s<e.length)(hlt:∀d∈b,d<c.length) :
 dH 270 #[dK ob 0,dw s,.slice D b.length N] w λZ P=>yA w P D (mZ e c s b) Z/\dB w P:=by
 have hol:=aj ho;obtain⟨_,k1,k2⟩:=iM O;obtain⟨Q,q,htk,hsy⟩:=xY C e c s w X Y;obtain⟨_,m1,m2⟩:=iM htk;have HA:=dn O;have YD:=dn (λW (h:dB w W)=>gF (O.below h));have uF:=dn (λW (h:dB w W)=>gF (htk.below h));have HO:=dn (λW (h:dB w W)=>(h.dL ho hol));have HZ0:=dn (AB.start w);have R:=dn (hsy _ HZ0.o.ek)
 have HT:Hid (∀m d,b[m]?=some d->∃po sy pn E lB F,(b.map (Doc.dY c))[m]?=some (Doc.dY c d)/\∀W,dB w W->dH 179 #[dK C 0,dw (d:Nat)] W λZ P=>Z=dF (.agg #[dw (po:Nat),dw (sy:Nat),dw (pn:Nat),.slice E lB F,dw (Doc.dY c d:Nat)])/\dB W P):=λm d h=>by
  have hal:=hlt d (List.mem_of_getElem? h);obtain⟨E,F,_,ht⟩:=tC C e c d w X hal;refine⟨Doc.eG c[d].op,c[d].sym,Doc.fP c[d],E,c[d].args.length,F,?_,λW hW=>?_⟩
  ·rw[List.getElem?_map,h];rfl
  ·rw[uZ hal];exact ht W hW
 have r:Hid (mZ e c s b=if b.length=0\/b.length≠e[s].args.length then .error 7 else if b.map (Doc.dY c)≠e[s].args then .error 7 else .ok ⟨Doc.written c (Doc.lC e s) b,13,e[s].sort,s,b⟩):=by show _=_;unfold mZ;rw[BQ Y,GX Y]
 have o0:=HO.o _ HZ0.o.ek;generalize mZ e c s b=S at *;obtain⟨n,aeI⟩:=aK (e[s].args);obtain⟨f,hso⟩:=aK (e[s].sort);rw[aeI]at R uF r m1;rw[hso]at R r;clear X O htk hsy aeI hso hlt;have hrest:∀(wq:World) (L T:Nat),True:=λ_ _ _=>trivial;obtain⟨L,hL⟩:=aK b.length;obtain⟨T,hT⟩:=aK n.length;have HL:=dn hL;have HTT:=dn hT;rw[hL]at k1 r HA ⊢;rw[hT]at m1 r R;clear hL hT hrest;go_enter func270,ntmps270;go_wp2_with fail;refine R.o.dX λt hb1=>?_;have hz1:=HZ0.o.below hb1;have aeL:P6 w t (t.alloc (.cells #[dD e[s].name,.slice Q T q,dw f] 197)) (.slice Q T q) f:=⟨hz1.below ai,aW,aW,aW⟩;have Pd:=dn aeL;have hw1:=hz1.lt;clear hb1 hz1 aeL;go_upto_region 2 with fail
 generalize t.alloc (.cells #[dD e[s].name,.slice Q T q,dw f] 197)=wa at *;have sa1:=Pd.o.t
 by_cases o:L=0\/L≠T
 ·have u:Hid (S=.error 7):=by show _=_;rw[r.o,if_pos o]
  have a:=Pd.o.z;have G:=a.c0;have H:=a.c1;have I:=a.c2;have J:=a.c3;have K:=a.c4;have cf:=a.fr;obtain⟨wz,hwz,v,x,y,z,A,i,M⟩:=kI G H I J K (dw 0) (dw 0) (dw 0) (dE) (dw 0);have p:=dn (a.ek.trans i);clear a i M
  by_cases h00:L=0
  ·have t0:((L:Int)==0)=true:=by rw[h00];rfl
   clear h00 o;exact aqt
  ·have t0:((L:Int)==0)=false:=ak aR;have t1:((L:Int) !=(T:Int))=true:=aX;clear h00 o;exact aqt
 ·have hL0:L≠0:=λh=>o (.inl h);have hLT:L=T:=Decidable.byContradiction (λh=>o (.inr h));have HP2:Hid (S=if b.map (Doc.dY c)≠n then .error 7 else .ok ⟨Doc.written c (Doc.lC e s) b,13,f,s,b⟩):=by show _=_;rw[r.o,if_neg o]
  subst hLT;have t0:((L:Int)==0)=false:=ak aR;clear o hL0;go_wp2_with fail
  go_loopw [30] (fun m wr=>∃k:Nat,m=dw k/\k<=L/\(∀j,j<k->(b.map (Doc.dY c))[j]?=n[j]?)/\P6 w t wr (.slice Q L q) f) (fun m _=>L-(intOf m).toNat)
  ·exact⟨0,rfl,aR,(λj hj=>aR),Pd.o⟩
  case round=>
   obtain⟨k,rfl,hk,hsame,g⟩:=hrel;have HS:=dn hsame;have HST:=dn g;have o1:=HO.o wr g.z.ek;have st1:=g.t;have slt:=g.lt;clear hsame
   by_cases hlt2:k<L
   ·have hkl:k<b.length:=by rw[HL.o];exact hlt2
    have hkt:k<n.length:=by rw[HTT.o];exact hlt2
    obtain⟨d,hka⟩:∃d,b[k]?=some d:=⟨_,aF hkl⟩;obtain⟨B,hkz⟩:∃B,n[k]?=some B:=⟨_,aF hkt⟩;obtain⟨bn,rfl,d1⟩:=YD.o wr g.z.ek k d hka;obtain⟨g2,rfl,U⟩:=uF.o wr g.z.ek k B hkz;obtain⟨po,sy,pn,E,lB,F,hss,hcall⟩:=HT.o k d hka;have HC:=dn (λW (h:dB wr W)=>hcall W (HST.o.z.ek.dW h));have hg2:=aj U;obtain⟨l,hsa⟩:=aK (Doc.dY c d);rw[hsa]at HC hss;have Dn:=dn hss;have HKZ:=dn hkz;clear hcall hka hkz hss hsa hkl hkt g;have alf:=Ih (dw (po:Int)) (dw (sy:Int)) (dw (pn:Int)) (.slice E lB F) (dw (l:Int));go_upto_region 7 with fail
    go_cut [48] (fun bg wx=>bg=.bool ((l:Int) !=(B:Int))/\P6 w t wx (dJ g2 L q) f)
    case first=>
     go_region_with (go_at_call 179;refine(HC.o _ bY).dX fun w2 hb3=>?_;have q1:=hb3.dL st1 slt;have q2:=(hb3.dL U hg2))
     all_goals
      have HE:Hid (P6 w t w2 (dJ g2 L q) f):=HST.o.below (af.drew.trans hb3);go_wp2;go_meet
      ·exact⟨rfl,HE.o⟩
    case rest=>
     obtain⟨rfl,V⟩:=hcut;have lq:=dn V
     by_cases hzs:l=B
     ·subst hzs;have tz:((l:Int) !=(l:Int))=false:=aW;clear V o1 st1 slt d1 U;go_wp2;go_roundw
      case rel=>exact⟨k+1,bL,aR,(λj hj=>by
       by_cases hjk:j=k
       ·rw[hjk,Dn.o,HKZ.o]
       ·exact HS.o j aR),lq.o⟩
      case measure=>exact aph
     ·have tz:((l:Int) !=(B:Int))=true:=aX
      have u:Hid (S=.error 7):=by
       show _=_;rw[HP2.o,if_pos];intro h;have:=Dn.o;rw[h,HKZ.o]at this;injection this with this;exact hzs this.symm
      have a:=V.z;have G:=a.c0;have H:=a.c1;have I:=a.c2;have J:=a.c3;have K:=a.c4;have cf:=a.fr;obtain⟨wz,hwz,v,x,y,z,A,i,M⟩:=kI G H I J K (dw 0) (dw 0) (dw 0) (dE) (dw 0);have p:=dn (a.ek.trans i);clear a i M V o1 st1 slt d1 U hzs;exact aqt
   ·have u:Hid (S=.ok ⟨Doc.written c (Doc.lC e s) b,13,f,s,b⟩):=by
     show _=_;rw[HP2.o,if_neg];intro h;apply h;refine List.ext_getElem? (λj=>?_)
     by_cases hj:j<k
     ·exact HS.o j hj
     ·rw[List.getElem?_eq_none (by rw[List.length_map,HL.o];omega),List.getElem?_eq_none (by rw[HTT.o];omega)]
    have a:=g.z;have G:=a.c0;have H:=a.c1;have I:=a.c2;have J:=a.c3;have K:=a.c4;have cf:=a.fr;have ss2:=g.s;obtain⟨wz,hwz,v,x,y,z,A,i,M⟩:=kI G H I J K (dw 4) (dw (s:Int)) (dw 0) (.slice D L N) (dw (f:Int));have p:=dn (a.ek.trans i);have HI:=dn (HA.o.below p.o);clear a i M g;go_wp2;exact dR (dM #[.agg #[dw 4,dw (s:Int),dw 0,.slice D L N,dw (f:Int)],dw 0]) (by simp[results,results270,go_sem,v,x,y,z,A]) rfl ⟨by rw[u.o];have hl:=HL.o;have hi:=HI.o;rw[<-hl]at hi ⊢;exact⟨_,_,rfl,hi,.inl rfl⟩,p.o⟩
end Go.Proofs.YtjiagbaaikifpaaGreatDoor
namespace Doc
variable {l:List Nat}{n:Nat}
theorem adj (a n:Nat)(c:5<=a)(d:a<=19):eG (kC (jb a) n)=jb a/\kC (jb a) n≠14:=by
 have b:a=5\/a=6\/a=7\/a=8\/a=9\/a=10\/a=11\/a=12\/a=13\/a=14\/a=15\/a=16\/a=17\/a=18\/a=19:=aR;rcases b with rfl|rfl|rfl|rfl|rfl|rfl|rfl|rfl|rfl|rfl|rfl|rfl|rfl|rfl|rfl
 all_goals
  first
  | (simp[kC,jb,eG];done)
  | (by_cases h:n=1<;>simp[kC,jb,eG,h])
theorem Td (h:gH n l≠0)(a:n=14\/n=15\/n=19):l.length=2:=by
 have:gY l 2 2 2=true:=by
  rcases a with rfl|rfl|rfl
  ·simp only[gH]at h;simpa[jv] using h
  ·simp only[gH]at h;simpa[jv] using h
  ·simp only[gH]at h;simpa[jv] using h
 simp[gY]at this;exact aR
theorem Te (a:Nat):gH a []=0:=by
 unfold gH
 repeat' split
 all_goals simp[jv,gY]
end Doc
namespace Go.Proofs.YtjiagbaaikifpaaGreatDoor
open Go.RowKit Go.Proofs.Tryz
variable {U W u w:World}{a d:eu}{h:Ending}{l:List Nat}{m n:Nat}
theorem Ho (e:eX u (.slice d n m) l)(f:d=a\/∃g,d=some (dA g 0)/\W.heap.size<=g)(i:∀g,a=some (dA g 0)->g<w.heap.size)(p:w.heap.size<W.heap.size)(j:∀c,c≠w.heap.size->U.heap[c]?=u.heap[c]?)(k:0<l.length):eX U (.slice d n m) l:=by
 obtain⟨g,o,_⟩:=gF e 0 l[0] (aF k);subst o;refine e.of_block (j g ?_);rcases f with h|⟨q,b,h⟩
 ·have:=i g h.symm;exact aR
 ·injection b with b;injection b with b;exact aR
theorem E5.at(c:E5 w n l h):∃a b,h=dF (.slice a l.length b)/\eX w (.slice a l.length b) l:=by
 obtain⟨a,b,rfl,_,_,d⟩:=c;exact⟨a,b,rfl,(Ba (own:=λ_=>0) d (λ_ _=>rfl)).ints⟩
def aiH (ss:List Doc.Sym)(ts:List Doc.Term)(op s:Nat)(args:List Nat):Except Nat Doc.Term:=if op=0 then mZ ss ts s args else Doc.jI Except.ok ts op args
theorem adW {ss:List Doc.Sym}{ts:List Doc.Term}{s:Nat}{args:List Nat}{t:Doc.Term}(h:mZ ss ts s args=.ok t):0<t.args.length:=by
 unfold mZ at h;split at h
 ·cases h
 ·split at h
  ·cases h
  ·injection h with h;subst h;show 0<args.length;exact aR
theorem OD (m n:Nat)(c:List Doc.Sym)(d:List Doc.Term)(s:Nat)(G:Int)(a:List Nat)(A:eu)(p:Nat)(w:World)(H:w.dQ m 0=some (dK n 0))(I:rV w n c d)(o:eX w (.slice A a.length p) a)(U:s<c.length)(V:G=s)(J:∀W∈a,W<d.length) :
 dH 237 #[dK m 0,dw 0,dw G,.slice A a.length p] w λq K=>yA w K A (mZ c d s a) q/\dB w K:=by
 subst V;have X:=aj H;have f:=dn (AB.start w);have Y:=dn (Fb m n c d s a A p _ ((f.o.ek.dL H X)) (I.below f.o.ek) (o.below f.o.ek) U J)
 have Z:Hid (0<a.length->∀g,A=some (dA g 0)->g<w.heap.size):=λh g hg=>by
  obtain⟨g',e,hc⟩:=gF o 0 a[0] (aF h);rw[hg]at e;injection e with e
  injection e with e;subst e;exact aj hc
 have r:Hid (∀t,mZ c d s a=.ok t->0<a.length):=λt h=>by
  unfold mZ at h;split at h
  ·cases h
  ·exact aR
 have u:=dn (λt=>adW (ss:=c) (ts:=d) (s:=s) (args:=a) (t:=t));generalize mZ c d s a=bg at *;clear I o J;go_enter func237,ntmps237;go_wp2_with fail;refine Y.o.mono ?_;rintro q w1 ⟨i,L⟩;have b:=f.o.below L;have M:=b.c0;have N:=b.c1;have O:=b.c2;have P:=b.c3;have Q:=b.c4;have cf:=b.fr;have R:=dn b;have hs1:=f.o.lt;clear L b;cases hR:bg with
 | error S=>
  rw[hR]at i;have hres':q=dF (dM #[kW,dw (S:Nat)]):=i;subst hres';obtain⟨wz,hwz,v,x,y,z,B,j,l⟩:=kI M N O P Q (dw 0) (dw 0) (dw 0) (dE) (dw 0);have C:=dn (R.o.ek.trans j);unfold kW;have D:=dn hR;clear j l i hR u r;go_wp2;exact dR (dM #[kW,dw (S:Nat)]) (by simp[results,results237,go_sem,kW,v,x,y,z,B]) rfl ⟨by rw[D.o];rfl,C.o⟩
 | ok t=>
  rw[hR]at i;obtain⟨k,E,he,T,F⟩:=i;subst he;obtain⟨wz,hwz,v,x,y,z,B,j,l⟩:=kI M N O P Q (dw (Doc.eG t.op:Nat)) (dw t.sym) (dw (Doc.fP t:Nat)) (.slice k t.args.length E) (dw t.sort);have C:=dn (R.o.ek.trans j);have HI:=dn (Ho T F (Z.o (r.o t hR)) hs1 l (u.o t hR))
  have HA:Hid (k=A\/∃g,k=some (dA g 0)/\w.heap.size<=g):=by
   rcases F with h|⟨g,h1,h2⟩
   ·exact .inl h
   ·exact .inr ⟨g,h1,aR⟩
  have D:=dn hR;clear j l hR u r T F;go_wp2;exact dR (dM #[.agg #[dw (Doc.eG t.op:Nat),dw t.sym,dw (Doc.fP t:Nat),.slice k t.args.length E,dw t.sort],dw 0]) (by simp[results,results237,go_sem,v,x,y,z,B]) rfl ⟨by rw[D.o];exact⟨k,E,rfl,HI.o,HA.o⟩,C.o⟩
theorem LJ (X Y:Nat)(Z:List Doc.Sym)(d:List Doc.Term)(a:Nat)(sv:Int)(b:List Nat)(A:eu)(D:Nat)(w:World)(ho:w.dQ X 0=some (dK Y 0))(hb:rV w Y Z d)(hwf:Doc.iB Z d)(ha:eX w (.slice A b.length D) b)(h5:5<=a)(h19:a<=19)(hlt:∀e∈b,e<d.length)(hlen:b.length<=1000) :
 dH 237 #[dK X 0,dw a,dw sv,.slice A b.length D] w λK w'=>yA w w' A (Doc.jI Except.ok d a b) K/\dB w w':=by
 have hol:=aj ho;have S:=dn (AB.start w);have hs0:=S.o.lt;have HA:=dn ha;have HO:=dn (λbn (h:dB w bn)=>(h.dL ho hol));have lH:=dn (Qg X Y Z d b A D _ (HO.o _ S.o.ek) (hb.below S.o.ek) (ha.below S.o.ek) hlt aR);have EC:=dn (λbn (h:dB w bn)=>hb.below h);have KZ:=dn hwf;have qI:=dn hlt
 have RQ:Hid (0<b.length->∀E,A=some (dA E 0)->E<w.heap.size):=λh E hg=>by
  obtain⟨g',L,hc⟩:=gF ha 0 b[0] (aF h);rw[hg]at L;injection L with L
  injection L with L;subst L;exact aj hc
 have M:Hid (Doc.jI Except.ok d a b=if Doc.gH a (b.map (Doc.dY d))=0 then .error 7 else if a=19 then(if Doc.number d (b.getD 0 0)=true then .ok ⟨Doc.written d [42] b,18,2,0,b⟩ else if Doc.number d (b.getD 1 0)=true then .ok ⟨Doc.written d [42] (Doc.swap b),18,2,0,Doc.swap b⟩ else .error 8) else .ok ⟨Doc.written d (Doc.iR (Doc.kC (Doc.jb a) b.length)) (Doc.kR a b),Doc.kC (Doc.jb a) b.length,Doc.gH a (b.map (Doc.dY d)),0,Doc.kR a b⟩):=rfl
 have zq:Hid (Doc.gH a (b.map (Doc.dY d))≠0->0<b.length):=λh=>by
  rcases Nat.eq_zero_or_pos b.length with g|g
  ·rw[List.eq_nil_of_length_eq_zero g]at h;exact absurd (Doc.Te a) h
  ·exact g
 have xq:Hid (Doc.gH a (b.map (Doc.dY d))≠0->a=14\/a=15\/a=19->∃e i,b=[e,i]):=λh ho=>by
  have:=Doc.Td h ho;rw[List.length_map]at this
  match b,this with
  | [e,i],_=>exact⟨e,i,rfl⟩
 have Dp:=dn (Doc.adj a b.length h5 h19);generalize Doc.jI Except.ok d a b=bg at *;have akM:((a:Int)==0)=false:=ak aR;obtain⟨Kc,hsrt⟩:=aK (b.map (Doc.dY d));rw[hsrt]at lH M zq xq;obtain⟨j,hso⟩:=aK (Doc.gH a Kc);rw[hso]at M zq xq;have uH:=dn hso;clear hb ha hlt hwf hso hsrt;go_enter func237,ntmps237;go_wp2_with fail;refine lH.o.mono ?_;rintro K w1 ⟨hnew,hb1⟩;obtain⟨aS,cS,rfl,hsI⟩:=hnew.at;have hz1:=S.o.below hb1;have HZ1:=dn hz1;have jl:=dn (Gf a Kc aS cS w1 hsI h5 h19);rw[uH.o]at jl;clear hnew hb1 hz1 hsI;go_wp2_with fail;refine jl.o.dX λF hb2=>?_;have z:=HZ1.o.below hb2;have l:=z.c0;have m:=z.c1;have n:=z.c2;have o:=z.c3;have p:=z.c4;have N:=z.fr;have B:=dn z;have hs2:=z.lt;clear hb2 z
 by_cases g:j=0
 ·have C:Hid (bg=.error 7):=by show _=_;rw[M.o,if_pos g]
  have t0:((j:Int)==0)=true:=by rw[g];rfl
  obtain⟨T,U,r,s,u,v,x,f,k⟩:=kI l m n o p (dw 0) (dw 0) (dw 0) (dE) (dw 0);have q:=dn (B.o.ek.trans f);clear f k g;go_wp2;exact dR (dM #[kW,dw 7]) aoV rfl ⟨by rw[C.o];rfl,q.o⟩
 ·have t0:((j:Int)==0)=false:=ak aR;have hpos:=zq.o g;have ajL:=dn (RQ.o hpos)
  by_cases I:a=19
  ·obtain⟨e,i,hab⟩:=xq.o g (.inr (.inr I));subst hab;have C:Hid (bg=BX d e i):=by show _=_;rw[M.o,if_neg g,if_pos I];rfl
   have hla:=qI.o e aW;have hlb:=qI.o i aW;have oQ:=dn (Qm X Y Z d e i A D F (HO.o _ B.o.ek) (EC.o _ B.o.ek) KZ.o (HA.o.below B.o.ek) hla hlb)
   have O:Hid (∀t,BX d e i=.ok t->0<t.args.length):=λt h=>by
    unfold BX at h;split at h
    ·injection h with h;subst h;show 0<2;exact aR
    ·split at h
     ·injection h with h;subst h;show 0<2;exact aR
     ·cases h
   subst I;clear g hpos RQ;go_wp2_with fail;refine oQ.o.mono ?_;rintro K w3 ⟨V,G⟩;have c:=B.o.below G;clear l m n o p N;have l:=c.c0;have m:=c.c1;have n:=c.c2;have o:=c.c3;have p:=c.c4;have N:=c.fr;have HZ3:=dn c;clear G c;cases Od:BX d e i with
   | error er=>
    rw[Od]at V;have hres':K=dF (dM #[kW,dw (er:Nat)]):=V;subst hres';obtain⟨T,U,r,s,u,v,x,f,k⟩:=kI l m n o p (dw 0) (dw 0) (dw 0) (dE) (dw 0);have q:=dn (HZ3.o.ek.trans f);unfold kW;have RJ:=dn Od;clear f k V Od;go_wp2;exact dR (dM #[kW,dw (er:Nat)]) aoV rfl ⟨by rw[C.o,RJ.o];rfl,q.o⟩
   | ok t=>
    rw[Od]at V;obtain⟨W,y,he,H,hA⟩:=V;subst he;obtain⟨T,U,r,s,u,v,x,f,k⟩:=kI l m n o p (dw (Doc.eG t.op:Nat)) (dw t.sym) (dw (Doc.fP t:Nat)) (.slice W t.args.length y) (dw t.sort);have q:=dn (HZ3.o.ek.trans f);have J:=dn (Ho H hA ajL.o hs2 k (O.o t Od))
    have HAA:Hid (W=A\/∃E,W=some (dA E 0)/\w.heap.size<=E):=by
     rcases hA with h|⟨E,h1,h2⟩
     ·exact .inl h
     ·exact .inr ⟨E,h1,aR⟩
    have RJ:=dn Od;clear f k Od H hA;go_wp2;exact dR (dM #[.agg #[dw (Doc.eG t.op:Nat),dw t.sym,dw (Doc.fP t:Nat),.slice W t.args.length y,dw t.sort],dw 0]) amA rfl ⟨by rw[C.o,RJ.o];exact⟨W,y,rfl,J.o,HAA.o⟩,q.o⟩
  ·have t19:((a:Int)==19)=false:=ak aR
   by_cases P:a=14\/a=15
   ·obtain⟨e,i,hab⟩:=xq.o g aR;subst hab
    have C:Hid (bg=.ok ⟨Doc.written d (Doc.iR (Doc.kC (Doc.jb a) 2)) [i,e],Doc.kC (Doc.jb a) 2,j,0,[i,e]⟩):=by
     show _=_;rw[M.o,if_neg g,if_neg I];simp only[Doc.kR,if_pos P,List.length_cons,List.length_nil];rfl
    have oQ:=dn (Dj e i A D F (HA.o.below B.o.ek));obtain⟨Q,R⟩:=Dp.o;simp only[List.length_cons,List.length_nil]at Q R;have HT:Hid (Doc.fP (⟨Doc.written d (Doc.iR (Doc.kC (Doc.jb a) 2)) [i,e],Doc.kC (Doc.jb a) 2,j,0,[i,e]⟩:Doc.Term)=0):=by show _=_;simp[Doc.fP,R]
    have O:=dn Q;simp only[List.length_cons,List.length_nil];clear g hpos RQ I Q R;rcases P with rfl|rfl
    ·go_wp2_with fail;refine oQ.o.mono ?_;rintro K w3 ⟨⟨y,rfl,H⟩,G⟩;have c:=B.o.below G;clear l m n o p N;have l:=c.c0;have m:=c.c1;have n:=c.c2;have o:=c.c3;have p:=c.c4;have N:=c.fr;obtain⟨T,U,r,s,u,v,x,f,k⟩:=kI l m n o p (dw 12) (dw 0) (dw 0) (dJ F.heap.size 2 y) (dw (j:Int));have q:=dn (c.ek.trans f);have J:=dn (H.of_block (k _ aR));clear f k H G c;go_wp2;exact dR (dM #[.agg #[dw 12,dw 0,dw 0,dJ F.heap.size 2 y,dw (j:Int)],dw 0]) amA rfl ⟨by rw[C.o];refine⟨some (dA F.heap.size 0),y,?_,J.o,.inr ⟨_,rfl,aR⟩⟩;rw[HT.o,O.o];rfl,q.o⟩
    ·go_wp2_with fail;refine oQ.o.mono ?_;rintro K w3 ⟨⟨y,rfl,H⟩,G⟩;have c:=B.o.below G;clear l m n o p N;have l:=c.c0;have m:=c.c1;have n:=c.c2;have o:=c.c3;have p:=c.c4;have N:=c.fr;obtain⟨T,U,r,s,u,v,x,f,k⟩:=kI l m n o p (dw 13) (dw 0) (dw 0) (dJ F.heap.size 2 y) (dw (j:Int));have q:=dn (c.ek.trans f);have J:=dn (H.of_block (k _ aR));clear f k H G c;go_wp2;exact dR (dM #[.agg #[dw 13,dw 0,dw 0,dJ F.heap.size 2 y,dw (j:Int)],dw 0]) amA rfl ⟨by rw[C.o];refine⟨some (dA F.heap.size 0),y,?_,J.o,.inr ⟨_,rfl,aR⟩⟩;rw[HT.o,O.o];rfl,q.o⟩
   ·have HTO:Hid (Doc.jb a=a):=by show _=_;unfold Doc.jb;rw[if_neg (λh=>P (.inl h)),if_neg (λh=>P (.inr h))]
    have C:Hid (bg=.ok ⟨Doc.written d (Doc.iR (Doc.kC (Doc.jb a) b.length)) b,Doc.kC (Doc.jb a) b.length,j,0,b⟩):=by
     show _=_;rw[M.o,if_neg g,if_neg I];simp only[Doc.kR,if_neg P]
    obtain⟨Q,R⟩:=Dp.o;have HT:Hid (Doc.fP (⟨Doc.written d (Doc.iR (Doc.kC (Doc.jb a) b.length)) b,Doc.kC (Doc.jb a) b.length,j,0,b⟩:Doc.Term)=0):=by show _=_;simp[Doc.fP,R]
    have O:=dn Q;have t14:((a:Int)==14)=false:=ak aR;have t15:((a:Int)==15)=false:=ak aR;obtain⟨T,U,r,s,u,v,x,f,k⟩:=kI l m n o p (dw (a:Int)) (dw 0) (dw 0) (.slice A b.length D) (dw (j:Int));have q:=dn (B.o.ek.trans f);have J:=dn (HA.o.below q.o);clear f k g hpos RQ I Q R P;go_wp2;exact dR (dM #[.agg #[dw (a:Int),dw 0,dw 0,.slice A b.length D,dw (j:Int)],dw 0]) amA rfl ⟨by rw[C.o];refine⟨A,D,?_,J.o,.inl rfl⟩;rw[HT.o,O.o,HTO.o];rfl,q.o⟩
