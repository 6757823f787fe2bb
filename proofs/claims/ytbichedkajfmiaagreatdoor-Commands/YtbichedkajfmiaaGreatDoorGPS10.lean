import Derived.Test.YtbichedkajfmiaaGreatDoorShelf
import Derived.Test.YtbichedkajfmiaaGreatDoorGPS7
import Derived.Test.YtbichedkajfmiaaGreatDoorC
set_option maxRecDepth 100000
set_option maxHeartbeats 16000000
namespace Go.Proofs.YtbichedkajfmiaaGreatDoor
open Go.RowKit
variable {W u w:World}{a:Option Addr}{k m n:Nat}{l:List Nat}{o:Own}{x:List UInt8}
structure eU (w:World):Prop where
 at0:∃t fr,w.heap[0]?=some (.cells (Doc.fG.map dO).toArray t fr)
 tab : Lib.TabIs Tryz.prog w "internal/strconv.uint64pow10" .u64 Lib.pow10Tab
theorem Tryz.FY : Tryz.prog.globalNamed "internal/strconv.uint64pow10" = some 1 := by kernel_rfl
theorem eU.ed (h:eU w)(d:∀b,b<2->b<w.heap.size->W.heap[b]?=w.heap[b]?):eU W:=by
 obtain⟨t,fr,e⟩:=h.at0;refine⟨⟨t,fr,by rw[d 0 aO (Array.getElem?_eq_some_iff.1 e).1];exact e⟩,?_⟩;have a:=h.tab;unfold Lib.TabIs World.var? at a ⊢;rw[Tryz.FY]at a ⊢;simp only[Option.bind_some]at a ⊢
 have f:1<w.heap.size:=by
  rcases Nat.lt_or_ge 1 w.heap.size with c|c
  ·exact c
  ·rw[Array.getElem?_eq_none c]at a;cases a
 rw[d 1 aO f];exact a
theorem eU.below (h:eU w)(a:Below w.heap.size w W):eU W:=h.ed (fun b _ c=>a.block b c)
theorem eU.fr {own:Own}(h:eU w)(a:Fr own o n w W)(c:∀b,b<2->own b≠n):eU W:=h.ed (fun b d e=>a.block b e (c b d))
theorem eU.cell (h:eU w)(i:Nat)(hi:i<15):w.cell? ⟨0,i,none⟩=some (.string ⟨(Doc.fG.getD i []).toArray⟩):=by
 obtain⟨t,fr,h⟩:=h.at0;rw[cell_of_row w 0 i _ t fr h];have:i<Doc.fG.length:=hi;simp[aD this,dO]
theorem DC (a:Nat)(w:World)(c:eU w)(f:5<=a)(g:a<=19) :
 Calls Tryz.prog 228 #[.int .i64 a] w fun e d=>e=.returned (.string ⟨(Doc.fG.getD (a-5) []).toArray⟩)/\d=w:=by
 obtain⟨i,rfl⟩:∃i,a=i+5:=⟨a-5,aO⟩;have h:=c.cell i aO;have hi:i<15:=aO;have j:((i+5:Nat):Int)-5=(i:Int):=aO;have b:i+5-5=i:=aO;rw[b];have k:¬((i:Int)<0):=aO;generalize Doc.fG.getD i []=l at *;clear b;go_enter Tryz.func228,Tryz.ntmps228;go_wp2_with fail;go_ret;exact⟨rfl,rfl⟩
theorem Pg {x:List UInt8}:Doc.ji x=match iG (fun n:List UInt8=>n==x) Doc.fG 0 with|some i=>5+i|none=>0:=by
 rw[qL];rfl
theorem Sw (a:Array Value)(k:Nat)(d:k<15)(v:Value)(b:a[k]?=some v)(w:World):(Instr.index 275 (.agg a) (.int .i64 (k:Int))).run Tryz.prog w=.ok v w:=by
 have c:(0:Int)<=(k:Int)/\(k:Int)<(15:Nat):=aO;simp[Instr.index,run_underlying Tryz.underlying275,asIntOf,c,go_sem,b];exact aO
theorem VA (i:Nat)(h:i<15):(Doc.fG.map dO).toArray[i]?=some (.string ⟨(Doc.fG.getD i []).toArray⟩):=by
 have:i<Doc.fG.length:=h;simp[aD this,dO]
theorem BL (x:List UInt8)(w:World)(o:eU w) :
 Calls Tryz.prog 170 #[.string ⟨x.toArray⟩] w fun u v=>u=.returned (.int .i64 (Doc.ji x:Nat))/\v=w:=by
 have C:=fJ;obtain⟨tt,fr,p⟩:=o.at0;obtain⟨b,f⟩:=aJ ((Doc.fG.map dO).toArray);have y:b.size=15:=by rw[<-f];rfl
 have z:Hid (∀i,i<15->b[i]?=some (.string ⟨(Doc.fG.getD i []).toArray⟩)):=fun i h=>by rw[<-f];exact VA i h
 rw[f]at p;have q:=di (Pg (x:=x));have r:Hid (Doc.fG.length=15):=rfl;have A:Hid (∀i (h:i<Doc.fG.length),Doc.fG.getD i []=Doc.fG[i]):=fun i h=>by rw[List.getD_eq_getElem?_getD,aD h];rfl
 have B:(Tryz.prog.info? 275).map (·.size)=some b.size:=by rw[y];kernel_rfl
 generalize Doc.ji x=D at *;generalize Doc.fG=a at *;clear o f;go_enter Tryz.func170,Tryz.ntmps170;go_wp2_with (refine wpList_load_row rfl 275 _ rfl 0 rfl tt b fr _ p Tryz.underlying275 rfl B ?_)
 go_loop [6] (fun i=>∃k:Nat,i=.int .i64 k/\k<=15/\iG (fun n:List UInt8=>n==x) a 0=iG (fun n:List UInt8=>n==x) a k) (fun i=>15-(intOf i).toNat)
 case atStart=>exact⟨0,rfl,aO,rfl⟩
 case round=>
  obtain⟨k,rfl,E,s⟩:=hrel;have g:=di s;clear s
  by_cases j:k<15
  ·have t:=z.o k j;have c:k<a.length:=by rw[r.o];exact j
   have d:=A.o k c;obtain⟨l,m⟩:=aJ (a.getD k []);rw[m]at t d;have F:=di c;have G:=Sw b k j _ t;cases hq:(l==x)
   ·have e:Hid (iG (fun n:List UInt8=>n==x) a k=iG (fun n:List UInt8=>n==x) a (k+1)):=qM c (by rw[<-d];exact hq);clear m d c;go_wp2_with fail
    go_round
    case rel=>exact⟨k+1,bJ,aO,by rw[g.o];exact e.o⟩
    case measure=>exact akL
   ·have e:Hid (iG (fun n:List UInt8=>n==x) a k=some k):=tO c (by rw[<-d];exact hq);clear m d c;go_wp2_with fail;go_ret;exact⟨fB (by rw[q.o,g.o,e.o];simp),rfl⟩
  ·have e:Hid (iG (fun n:List UInt8=>n==x) a k=none):=tQ (by rw[r.o];omega);go_wp2_with fail;go_ret;exact⟨fB (by rw[q.o,g.o,e.o];rfl),rfl⟩
theorem Na:∀(n:Nat),0<n->Lib.decDigits n=dn.D n:=by
 intro n
 induction n using Nat.strongRecOn with
 | ind n b=>
  intro h;rw[Lib.decDigits,dn.sS h]
  by_cases a:n<10
  ·rw[dif_pos a,show n / 10=0 by omega,dn.iL,List.nil_append];unfold dn.oW;rw[show n % 10=n by omega]
  ·rw[dif_neg a,b (n / 10) aO aO];rfl
theorem VQ (h:Doc.digits x=true):Lib.itoa (dn.val x:Nat)=x:=by
 obtain⟨b,c,d,_⟩:=Doc.qh h;unfold Lib.itoa;rw[if_neg aO,show((dn.val x:Nat):Int).toNat=dn.val x by simp];rcases d with rfl|f
 ·rw[show dn.val [48]=0 from rfl,Lib.decDigits];rfl
 ·have e:=dn.Bw b f
  have g:0<dn.val x:=by
   rcases Nat.eq_zero_or_pos (dn.val x) with a|a
   ·rw[a,dn.iL]at e;exact absurd e c
   ·exact a
  rw[Na _ g];exact e.symm
theorem Gr (h:Doc.digits x=true):dn.val x<100000000:=by
 obtain⟨a,_,_,b⟩:=Doc.qh h;have:=dn.qC a;exact Nat.lt_of_lt_of_le this (by have:=Nat.pow_le_pow_right (show 0<10 by omega) b;omega)
theorem Qb {a:Array Obj}:Below w.heap.size w (Sort.grow (w.drewN n) a):=
 ⟨rfl,rfl,rfl,by simp[Sort.grow],fun i hi=>by simp only[Sort.grow];rw[Array.getElem?_append_left ahT];rfl⟩
theorem Vh:∀a:Fin 19,1<=a.1->a.1≠1->a.1≠2->a.1≠13->a.1≠14->5<=Doc.dZ a.1/\Doc.dZ a.1<=19/\Doc.fG.getD (Doc.dZ a.1-5) []=Doc.gM a.1:=aR
theorem Po (u:Nat)(b:List Doc.Sym)(v:List Doc.Term)(t:Doc.Term)(B:Option Addr)(C D:Nat)(w:World)(j:qX w u b v)(f:eU w)(e:Doc.Made b v t) :
 Calls Tryz.prog 182 #[.pointer (some ⟨u,0,none⟩),.agg #[.int .i64 (Doc.dZ t.op:Nat),.int .i64 t.sym,.int .i64 (Doc.fq t:Nat),.slice B C D,.int .i64 t.sort]] w fun n L=>n=.returned (.string ⟨(Doc.nameOf b t).toArray⟩)/\Below w.heap.size w L:=by
 have k:Below w.heap.size w (w.alloc (.cells #[.int .i64 (Doc.dZ t.op:Nat),.int .i64 t.sym,.int .i64 (Doc.fq t:Nat),.slice B C D,.int .i64 t.sort] 238)):=ag;have a:=di k;obtain⟨g,c⟩:=aJ (Doc.nameOf b t);rw[c];have E:=Doc.yH e
 by_cases o:t.op=1
 ·have h:Doc.dZ t.op=1:=by rw[o];rfl
  have d:Hid (g=[116,114,117,101]):=by show _=_;rw[<-c];simp[Doc.nameOf,o];rfl
  exact ame
 ·by_cases p:t.op=2
  ·have h:Doc.dZ t.op=2:=by rw[p];rfl
   have d:Hid (g=[102,97,108,115,101]):=by show _=_;rw[<-c];simp[Doc.nameOf,p];rfl
   exact ame
  ·by_cases i:t.op=14
   ·have h:Doc.dZ t.op=3:=by rw[i];rfl
    have x:=Doc.mF e i;have F:Doc.nameOf b t=t.text:=by simp[Doc.nameOf,i]
    rw[F]at x;have M:Doc.fq t=dn.val t.text:=by simp[Doc.fq,i]
    have S:=Gr x;have N:=di (VQ x);have d:Hid (g=t.text):=by show _=_;rw[<-c,F]
    rw[h,M]at a ⊢;have l:=di (Tryz.strconv_Itoa (dn.val t.text:Nat) aO aO _ (f.below a.o).tab);rw[N.o]at l;clear k c e j f;go_enter Tryz.func182,Tryz.ntmps182;go_wp2_with fail;refine l.o.mono ?_;rintro n q ⟨rfl,T,U,G⟩;have y:Hid (Below w.heap.size w q):=by show Below _ _ _;rw[G];exact a.o.trans (Qb.mono a.o.size)
    clear G;go_wp2_with fail;go_ret;exact⟨iB d.o.symm,y.o⟩
   ·by_cases m:t.op=13
    ·have h:Doc.dZ t.op=4:=by rw[m];rfl
     have H:t.sym<b.length:=by
      rcases e with ⟨r,_,_,_⟩|⟨r,_,_,_,_⟩|⟨_,r,_,_⟩|⟨O,P,r,_,_,_,_⟩
      ·exact aO
      ·exact aO
      ·exact r
      ·have:=Doc.jS O P;exact aO
     have d:Hid (g=b[t.sym].name):=by show _=_;rw[<-c];simp[Doc.nameOf,m];exact Doc.oo H
     rw[h]at a ⊢;obtain⟨Q,R,_,I⟩:=vk u b v t.sym w j H;have l:=di (I _ a.o);clear k c e j f I;go_enter Tryz.func182,Tryz.ntmps182;go_wp2_with fail;refine l.o.mono ?_;rintro n q ⟨rfl,z⟩;have y:Hid (Below w.heap.size w (q.alloc (.cells #[.string ⟨b[t.sym].name.toArray⟩,.slice Q b[t.sym].args.length R,.int .i64 b[t.sym].sort] 196))):=(a.o.trans (z.mono a.o.size)).alloc (Nat.le_trans a.o.size z.size) _;clear z;go_wp2_with fail;go_ret;exact⟨iB d.o.symm,y.o⟩
    ·obtain⟨J,K,A⟩:=Vh ⟨t.op,aO⟩ E.1 o p m i;simp only at J K A;have d:Hid (g=Doc.fG.getD (Doc.dZ t.op-5) []):=by show _=_;rw[<-c,A];simp[Doc.nameOf,m,i]
     have l:=di (DC (Doc.dZ t.op) _ (f.below a.o) J K);generalize Doc.fG.getD (Doc.dZ t.op-5) []=V at *;generalize Doc.dZ t.op=s at *;have W:((s:Int)==1)=false:=aj aO;have X:((s:Int)==2)=false:=aj aO;have Y:((s:Int)==3)=false:=aj aO;have Z:((s:Int)==4)=false:=aj aO;clear k c e j f A o p m i E;go_enter Tryz.func182,Tryz.ntmps182;go_wp2_with fail;refine l.o.mono ?_;rintro n q ⟨rfl,rfl⟩;go_wp2_with fail;go_ret;exact⟨iB d.o.symm,a.o⟩
theorem Rp (a:List Doc.Term)(b:List Nat)(c:Nat):Doc.tail a (b++[c])=Doc.tail a b++32::Doc.fe a c:=by simp[Doc.tail]
theorem Iw (b:List Doc.Term)(a:List Nat)(k:Nat):(Doc.tail b (a.take k)).length<=(Doc.tail b a).length:=by
 have h:Doc.tail b a=Doc.tail b (a.take k)++Doc.tail b (a.drop k):=by
  conv=>lhs;rw[<-List.take_append_drop k a]
  simp only[Doc.tail,List.flatMap_append]
 rw[h,List.length_append];exact aO
theorem AR {a:List Doc.Term}(h:∀t∈a,t.text.length<=800)(b:Nat):(Doc.fe a b).length<=800:=by
 unfold Doc.fe;cases e:a[b]? with
 | none=>simp
 | some t=>exact h t (List.mem_of_getElem? e)
theorem Lg (i:Nat)(f:List Doc.Sym)(a:List Doc.Term)(x:Doc.gP f a):∀n,n<a.length->∀w,qX w i f a->eU w->
 Calls Tryz.prog 133 #[.pointer (some ⟨i,0,none⟩),.int .i64 n] w fun e o=>e=.returned (.string ⟨(Doc.fe a n).toArray⟩)/\Below w.heap.size w o:=by
 intro n
 induction n using Nat.strongRecOn with
 | ind n M=>
  intro z w r A;have hR:=fJ;have j:=x.terms n z;obtain⟨s,l,B,N⟩:=qj i f a n w r z;have O:=di (N w af);have P:=di (fun W (h:Below w.heap.size w W)=>eY (B.below h))
  have IY:a[n].args.length<=l/\l<=2 ^ 63-1:=by
   obtain⟨_,_,e1,k1,Q,_⟩:=B;injection e1 with _ _ e3
   subst e3;unfold maxLen at Q;exact⟨k1,Q⟩
  obtain⟨R,hc2⟩:=IY
  have p:Hid (Doc.fe a n=Doc.written a (Doc.nameOf f a[n]) a[n].args):=by
   show _=_;rw[Doc.rW z];exact j.text
  have C:Hid (∀W,Below w.heap.size w W->Calls Tryz.prog 182 #[.pointer (some ⟨i,0,none⟩),.agg #[.int .i64 (Doc.dZ a[n].op:Nat),.int .i64 a[n].sym,.int .i64 (Doc.fq a[n]:Nat),.slice s a[n].args.length l,.int .i64 a[n].sort]] W fun e o=>e=.returned (.string ⟨(Doc.nameOf f a[n]).toArray⟩)/\Below W.heap.size W o):=
   fun W h=>Po i f a a[n] s _ l W (r.below h) (A.below h) j.made
  have S:Hid (∀b,b∈a[n].args->b<n/\∀W,Below w.heap.size w W->Calls Tryz.prog 133 #[.pointer (some ⟨i,0,none⟩),.int .i64 b] W fun e o=>e=.returned (.string ⟨(Doc.fe a b).toArray⟩)/\Below W.heap.size W o):=
   fun b d=>⟨j.args b d,fun W h=>M b (j.args b d) (by have:=j.args b d;omega) W (r.below h) (A.below h)⟩
  have T:=di (fun b=>AR x.long b);have U:=T.o n;obtain⟨c,V⟩:=aJ (a[n].args);obtain⟨g,X⟩:=aJ (Doc.nameOf f a[n]);obtain⟨t,Y⟩:=aJ (Doc.fe a n);rw[V]at O P p C S R;rw[X]at p C;rw[Y]at p U ⊢;clear x r A M j B N V X Y;generalize Doc.dZ a[n].op=po at *;generalize a[n].sym=sy at *;generalize Doc.fq a[n]=pn at *;generalize a[n].sort=so at *;go_enter Tryz.func133,Tryz.ntmps133;go_wp2_with fail;refine O.o.mono ?_;rintro e Z ⟨rfl,u⟩;have D:Hid (Below w.heap.size w (Z.alloc (.cells #[.int .i64 (po:Nat),.int .i64 sy,.int .i64 (pn:Nat),.slice s c.length l,.int .i64 so] 238))):=u.alloc u.size _;have hs1:=u.size;clear u;go_wp2_with fail;refine(C.o _ D.o).mono ?_;rintro e w2 ⟨rfl,E⟩;have b3:=(E.cell (p:=⟨Z.heap.size,3,none⟩) aP).trans (show _=some (.slice s c.length l) by simp);have HB2:Hid (Below w.heap.size w w2):=D.o.trans (E.mono D.o.size);clear E
  by_cases m:c.length=0
  ·have v:Hid (t=g):=by show _=_;rw[p.o];simp[Doc.written,m]
   have t0:((c.length:Int)==0)=true:=by rw[m];rfl
   generalize c.length=L at *;clear m;go_wp2_with fail;go_ret;exact⟨iB v.o.symm,HB2.o⟩
  ·have v:Hid (t=40::g++Doc.tail a c++[41]):=by show _=_;rw[p.o];simp only[Doc.written,if_neg m]
   have t0:((c.length:Int)==0)=false:=aj aO;have F:=U;rw[v.o]at F;simp only[List.length_append,List.length_cons,List.length_nil]at F;have hnl:g.length<=1000:=aO
   have YK:Hid (∀k,(40::g++Doc.tail a (c.take k)).length<=1000):=fun k=>by
    have:=Iw a c k;simp only[List.length_append,List.length_cons];exact aO
   clear F;obtain⟨L,G⟩:=aJ c.length;rw[G]at t0 b3 R m ⊢;have HL:=di G;clear G m;go_wp2_with fail
   go_loopw [7,26] (fun bn H wr=>∃(k:Nat) (y:List UInt8),H=.int .i64 k/\k<=L/\bn=.string ⟨y.toArray⟩/\y=40::g++Doc.tail a (c.take k)/\Below w.heap.size w wr) (fun _ H _=>L-(intOf H).toNat)
   case atStart=>exact⟨0,_,rfl,aO,rfl,by simp[Doc.tail],HB2.o⟩
   case round=>
    obtain⟨k,y,rfl,hk,rfl,I,q⟩:=hrel;have J:=di q;have HY:=di I;have hyl:y.length<=1000:=by rw[I];exact YK.o k
    clear I
    by_cases hlt:k<L
    ·have hkl:k<c.length:=by rw[HL.o];exact hlt
     obtain⟨b,d⟩:∃b,c[k]?=some b:=⟨_,aD hkl⟩;obtain⟨bq,rfl,d1⟩:=P.o wr q k b d;have hmem:b∈c:=List.mem_of_getElem? d;obtain⟨han,hcall⟩:=S.o b hmem;have kI:=di (hcall wr q);have hal:=T.o b;obtain⟨bg,K⟩:=aJ (Doc.fe a b);rw[K]at kI hal;have HZ:=di K;have ru:Hid (c.take (k+1)=c.take k++[b]):=by show _=_;rw[List.take_add_one,d];rfl
     clear q hcall d hmem hkl K;go_wp2_with fail;refine kI.o.mono ?_;rintro e w3 ⟨rfl,hb3⟩;have HB3:Hid (Below w.heap.size w w3):=J.o.trans (hb3.mono J.o.size);clear hb3;go_wp2_with fail;go_roundw
     case rel=>exact⟨k+1,_,bJ,aO,rfl,by rw[ru.o,Rp,HZ.o,HY.o];simp,HB3.o⟩
     case measure=>exact akL
    ·clear q;go_wp2_with fail;go_ret;exact⟨iB (by rw[v.o,HY.o,List.take_of_length_le (by rw[HL.o];omega)]),J.o⟩
theorem Eg (b:Nat):∀(a:List Nat),a≠[]->Doc.fK (a++[b])=Doc.fK a++32::Doc.gZ b:=by
 intro a
 induction a with
 | nil=>intro h;exact absurd rfl h
 | cons x a e=>
  intro _;cases a with
  | nil=>rfl
  | cons y f=>
   have c:∀d,Doc.fK (x::y::d)=Doc.gZ x++32::Doc.fK (y::d):=fun _=>rfl;have:=e aP;simp only[List.cons_append]at this ⊢;rw[c,this,c];exact aP
theorem ni (s:Nat):(Doc.gZ s).length<=4:=by
 unfold Doc.gZ;split
 ·exact aR
 ·split<;>decide
theorem AU:∀(a:List Nat),(Doc.fK a).length<=5*a.length:=by
 intro a
 induction a with
 | nil=>simp[Doc.fK]
 | cons x a b=>
  have:=ni x;cases a with
  | nil=>simp only[Doc.fK,List.length_cons,List.length_nil];omega
  | cons y c=>rw[Doc.fK];simp only[List.length_append,List.length_cons]at b ⊢;omega;simp
def ky (x:Doc.Sym):List UInt8:=40::Doc.fV++32::x.name++[32,40]
def lJ (x:Doc.Sym):List UInt8:=ky x++Doc.fK x.args++41::32::Doc.gZ x.sort++[41]
theorem mZ (x:Doc.Sym):Doc.jE x=lJ x++[10]:=by simp[Doc.jE,lJ,ky]
theorem FD (x:Doc.Sym)(A:Option Addr)(p:Nat)(w:World)(hi:dY w (.slice A x.args.length p) x.args)(j:Doc.vg x)(hn:x.name.length<=1000) :
 Calls Tryz.prog 132 #[.agg #[.string ⟨x.name.toArray⟩,.slice A x.args.length p,.int .i64 x.sort]] w fun e r=>e=.returned (.string ⟨(lJ x).toArray⟩)/\Below w.heap.size w r:=by
 have hR:=fJ
 have IY:x.args.length<=p/\p<=2 ^ 63-1:=by
  obtain⟨_,_,e1,k1,H,_⟩:=id hi;injection e1 with _ _ e3
  subst e3;unfold maxLen at H;exact⟨k1,H⟩
 obtain⟨hc1,hc2⟩:=IY;have t:Below w.heap.size w (w.alloc (.cells #[.string ⟨x.name.toArray⟩,.slice A x.args.length p,.int .i64 x.sort] 196)):=ag;have l:=di t;have g:=di (eY (hi.below t));have I:Hid (∀s,s=1\/s=2\/s=3->∀W,Calls Tryz.prog 181 #[.int .i64 (s:Nat)] W fun e r=>e=.returned (.string ⟨(Doc.gZ s).toArray⟩)/\r=W):=fun s J W=>IW s W J;have K:=di j.sort;have M:=di j.args;have pO:=j.few;have N:=di ni;have h:Hid (lJ x=ky x++Doc.fK x.args++41::32::Doc.gZ x.sort++[41]):=rfl;have u:Hid (ky x=(40::Doc.fV++32::x.name)++[32,40]):=by show _=_;simp[ky]
 have O:Hid ((ky x).length<=1100):=by show _<=_;simp[ky,Doc.fV];omega
 have P:=di (fun k=>AU (x.args.take k));obtain⟨L,v⟩:=aJ x.args.length;rw[v]at hc1 pO l g ⊢;have m:=di v;obtain⟨a,Q⟩:=aJ x.args;rw[Q]at M P h m g;obtain⟨d,R⟩:=aJ x.sort;rw[R]at K h l g ⊢;obtain⟨S,T⟩:=aJ (lJ x);rw[T]at h ⊢;obtain⟨i,U⟩:=aJ (ky x);rw[U]at h u O;obtain⟨B,V⟩:=aJ x.name;rw[V]at hn u l g ⊢;clear t hi j v Q R T U V;go_enter Tryz.func132,Tryz.ntmps132;go_wp2_with fail
 go_loopw [3,13] (fun s C wr=>∃(k:Nat) (y:List UInt8),C=.int .i64 k/\k<=L/\s=.string ⟨y.toArray⟩/\y=i++Doc.fK (a.take k)/\wr=w.alloc (.cells #[.string ⟨B.toArray⟩,.slice A L p,.int .i64 d] 196)) (fun _ C _=>L-(intOf C).toNat)
 case atStart=>exact⟨0,_,rfl,aO,rfl,by rw[u.o];simp[Doc.fK,Doc.fV],rfl⟩
 case round=>
  obtain⟨k,y,rfl,hk,rfl,D,rfl⟩:=hrel;have E:=di D
  have hyl:y.length<=2000:=by
   rw[D,List.length_append];have X:=O.o;have h2:=P.o k;have h3:(a.take k).length<=2:=by simp;rw[m.o];omega
   exact aO
  clear D
  by_cases hlt:k<L
  ·have Y:k<a.length:=by rw[m.o];exact hlt
   obtain⟨b,n⟩:∃b,a[k]?=some b:=⟨_,aD Y⟩;obtain⟨bg,rfl,d1⟩:=g.o k b n;have Z:b∈a:=List.mem_of_getElem? n;have F:=N.o b;have f:=di (I.o b (by have:=M.o b Z;omega));obtain⟨z,c⟩:=aJ (Doc.gZ b);rw[c]at f F;have ru:Hid (a.take (k+1)=a.take k++[b]):=by show _=_;rw[List.take_add_one,n];rfl
   have kZ:Hid (0<k->a.take k≠[]):=fun J e=>by have X:=congrArg List.length e;rw[List.length_take,List.length_nil]at X;omega
   have o:=di c;clear n Z c Y
   by_cases G:k=0
   ·have q:Hid (y++z=i++Doc.fK (a.take (k+1))):=by
     show _=_;rw[ru.o,E.o,G];simp[Doc.fK,o.o]
    subst G;go_wp2_with fail;refine(f.o _).mono ?_;rintro e w3 ⟨rfl,rfl⟩;go_wp2_with fail;go_roundw
    case rel=>first|exact⟨1,_,bJ,aO,rfl,q.o,rfl⟩|exact⟨1,_,bJ,aO,rfl,q.o,trivial⟩
    case measure=>exact akL
   ·have q:Hid (y++32::z=i++Doc.fK (a.take (k+1))):=by
     show _=_;rw[ru.o,E.o,Eg b _ (kZ.o aO),o.o];exact aP
    have hkp:(0:Int)<(k:Int):=aO;clear G;go_wp2_with fail;refine(f.o _).mono ?_;rintro e w3 ⟨rfl,rfl⟩;go_wp2_with fail;go_roundw
    case rel=>exact⟨k+1,_,bJ,aO,rfl,by rw[<-q.o],by trivial⟩
    case measure=>exact akL
  ·have f:=di (I.o d K.o);have F:=N.o d;obtain⟨z,c⟩:=aJ (Doc.gZ d);rw[c]at f F;have o:=di c;have HTA:Hid (a.take k=a):=List.take_of_length_le (by rw[m.o];omega);clear c;go_wp2_with fail;refine(f.o _).mono ?_;rintro e w3 ⟨rfl,rfl⟩;go_wp2_with fail;go_ret;exact⟨iB (by rw[h.o,E.o,HTA.o,o.o];simp),l.o⟩
theorem mJ {a:Type}(f:a->List UInt8)(B:Nat):∀(l:List a),(∀x∈l,(f x).length<=B)->(l.flatMap f).length<=l.length*B:=by
 intro l
 induction l with
 | nil=>intro _;simp
 | cons b l c=>
  intro h;have e:=h b List.mem_cons_self;have g:=c (fun x d=>h x (List.mem_cons_of_mem _ d));rw[List.flatMap_cons,List.length_append,List.length_cons,Nat.succ_mul];exact aO
theorem zG {a:Type}{l:List a}{x:a}(b:l[m]?=some x)(h:n<=m):(l.take (m+1)).drop n=(l.take m).drop n++[x]:=by
 have hi:=(List.getElem?_eq_some_iff.1 b).1;rw[List.take_add_one,b,List.drop_append_of_le_length (by rw[List.length_take];omega)];rfl
theorem Cq {b:Type}(l:List b)(a:Nat):(l.take a).drop a=[]:=List.drop_eq_nil_of_le (by rw[List.length_take];omega)
theorem FN {a:Type}{l:List a}{x:a}(h:x∈(l.take m).drop n):x∈l:=List.take_subset _ _ (List.mem_of_mem_drop h)
theorem vC {a:Type}(l:List a)(b i:Nat):((l.take i).drop b).length<=l.length:=by rw[List.length_drop,List.length_take];omega
theorem zF {x:Doc.Sym}(h:Doc.vg x):x.name.length<=8:=by
 have:=h.name;unfold Doc.forbidden at this;simp only[Bool.or_eq_false_iff]at this;have a:=this.2;simp at a;exact a
theorem sN {x:Doc.Sym}(h:Doc.vg x):(lJ x).length<=99:=by
 have a:=zF h;have b:=AU x.args;have c:=h.few;have d:=ni x.sort;simp only[lJ,ky,Doc.fV,List.length_append,List.length_cons,List.length_nil];exact aO
structure E8 (w:World)(sb:Nat)(hs:List Nat):Prop where
 held:∃v,w.cell? ⟨sb,2,none⟩=some v/\dY w v hs
theorem E8.below (h:E8 w n l)(a:Below w.heap.size w W):E8 W n l:=by
 obtain⟨v,b,c⟩:=h.held;exact⟨v,(a.cell (p:=⟨n,2,none⟩) (ai b)).trans b,c.below a⟩
theorem dA.abt {own:Own}{S:Doc.dB}(h:dA w own n m S):E8 w m S.held:=by
 obtain⟨v,a,b⟩:=h.held;refine⟨v,a,fA.imp b.sl fun j i hi c _=>?_⟩;obtain⟨d,_,e,f⟩:=c.2 hi;have g:d=[.int .i64 (S.held[i]:Int)]:=e;subst g;have:=f 0 _ aO rfl;rw[show i*1+0=i by omega]at this;exact this
theorem IA (j:Nat)(S:Doc.dB)(a A b c B d:Nat)(w:World)(l:Doc.fQ S)(f:qX w j S.syms S.terms)(Y:E8 w j S.held)(Z:eU w)(hac:a<=c)(hc:c<=S.syms.length)(hbd:b<=d)(hd:d<=S.held.length) :
 Calls Tryz.prog 87 #[.pointer (some ⟨j,0,none⟩),.agg #[.int .i64 a,.int .i64 A,.int .i64 b],.agg #[.int .i64 c,.int .i64 B,.int .i64 d]] w fun e o=>e=.returned (.string ⟨(Doc.part S a b c d).toArray⟩)/\Below w.heap.size w o:=by
 have hR:=fJ;have CU:=l.book.few;have hh12:=l.pE;have hb0:Below w.heap.size w ((w.alloc (.cells #[.int .i64 a,.int .i64 A,.int .i64 b] 133)).alloc (.cells #[.int .i64 c,.int .i64 B,.int .i64 d] 133)):=ag.alloc aP _;have HB0:=di hb0
 have G:Hid (∀W,Below (w.heap.size+1+1) ((w.alloc (.cells #[.int .i64 a,.int .i64 A,.int .i64 b] 133)).alloc (.cells #[.int .i64 c,.int .i64 B,.int .i64 d] 133)) W->W.cell? ⟨w.heap.size,2,none⟩=some (.int .i64 b)/\W.cell? ⟨w.heap.size+1,0,none⟩=some (.int .i64 c)/\W.cell? ⟨w.heap.size+1,2,none⟩=some (.int .i64 d)/\Below w.heap.size w W/\w.heap.size+1+1<=W.heap.size):=fun W f=>
  ⟨(f.cell (p:=⟨w.heap.size,2,none⟩) aW).trans aP,(f.cell (p:=⟨w.heap.size+1,0,none⟩) cK).trans aP,(f.cell (p:=⟨w.heap.size+1,2,none⟩) cK).trans aP,HB0.o.trans (f.mono aO),by have:=f.size;simpa using this⟩
 have Xw:Hid (∀i x,S.syms[i]?=some x->Doc.vg x/\∃p q,∀W,Below w.heap.size w W->(Calls Tryz.prog 131 #[.pointer (some ⟨j,0,none⟩),.int .i64 (i:Nat)] W fun e o=>e=.returned (.agg #[.string ⟨x.name.toArray⟩,.slice p x.args.length q,.int .i64 x.sort])/\Below W.heap.size W o)/\Calls Tryz.prog 132 #[.agg #[.string ⟨x.name.toArray⟩,.slice p x.args.length q,.int .i64 x.sort]] W fun e o=>e=.returned (.string ⟨(lJ x).toArray⟩)/\Below W.heap.size W o):=fun i x m=>by
  obtain⟨hi,hx'⟩:=List.getElem?_eq_some_iff.1 m;subst hx';have s:=l.book.syms _ (List.getElem_mem hi);obtain⟨p,q,h1,h2⟩:=vk j S.syms S.terms i w f hi;exact⟨s,p,q,fun W h=>⟨h2 W h,FD _ p q W (h1.below h) s (by have:=zF s;omega)⟩⟩
 have YI:Hid (∀n,n∈S.held->∀W,Below w.heap.size w W->Calls Tryz.prog 133 #[.pointer (some ⟨j,0,none⟩),.int .i64 (n:Nat)] W fun e o=>e=.returned (.string ⟨(Doc.fe S.terms n).toArray⟩)/\Below W.heap.size W o):=fun n t W h=>
  Lg j S.syms S.terms l.book n (l.held n t).1 W (f.below h) (Z.below h)
 obtain⟨vH,H,I⟩:=Y.held;obtain⟨aH,K6,rfl,k1,g,_⟩:=id I;unfold maxLen at g;have Uu:=di (fun W (h:Below w.heap.size w W)=>eY (I.below h));have Uv:=di (fun W (h:Below w.heap.size w W)=>(h.cell (p:=⟨j,2,none⟩) (ai H)).trans H)
 have Di:Hid (∀i,(((S.syms.take i).drop a).flatMap Doc.jE).length<=1000):=fun i=>by
  refine Nat.le_trans (mJ Doc.jE 100 _ (fun x m=>?_)) ?_
  ·rw[mZ,List.length_append];have:=sN (l.book.syms x (FN m));exact al6
  ·have:=vC S.syms a i;exact aO
 have YK:=di (fun n=>AR l.book.long n)
 have HHL:Hid (∀i,(((S.held.take i).drop b).flatMap (Doc.iw S.terms)).length<=12000):=fun i=>by
  refine Nat.le_trans (mJ (Doc.iw S.terms) 1000 _ (fun x m=>?_)) ?_
  ·have:=YK.o x;simp[Doc.iw,Doc.iM];exact aO
  ·have:=vC S.held b i;exact aO
 have QR:Hid (Doc.part S a b c d=((S.syms.take c).drop a).flatMap Doc.jE++((S.held.take d).drop b).flatMap (Doc.iw S.terms)):=rfl;generalize Doc.part S a b c d=res at *;clear hb0 f Y Z l H I;have hlen:d<=12:=aO;have hlc:c<=8:=aO;have Ul:=di hd;have wM:=di hc;obtain⟨J,K⟩:=aJ S.held.length;rw[K]at k1 hd Uv hh12;have ahO:=di K;clear K hc;go_enter Tryz.func87,Tryz.ntmps87;go_wp2_with fail
 go_loopw [7,8] (fun L i wr=>∃(k:Nat) (y:List UInt8),i=.int .i64 k/\a<=k/\k<=c/\L=.string ⟨y.toArray⟩/\y=((S.syms.take k).drop a).flatMap Doc.jE/\Below (w.heap.size+1+1) ((w.alloc (.cells #[.int .i64 a,.int .i64 A,.int .i64 b] 133)).alloc (.cells #[.int .i64 c,.int .i64 B,.int .i64 d] 133)) wr) (fun _ i _=>c-(intOf i).toNat)
 case atStart=>exact⟨a,[],rfl,aO,hac,rfl,by rw[Cq];rfl,af⟩
 case round=>
  obtain⟨k,y,rfl,hak,hkc,rfl,M,r⟩:=hrel;obtain⟨b2,b0,bd,u,E⟩:=G.o wr r;have qy:=di r;have N:=di u;have HY:=di M;have hyl:y.length<=1000:=by rw[M];exact Di.o k
  clear M r u
  by_cases hlt:k<c
  ·obtain⟨x,m⟩:∃x,S.syms[k]?=some x:=⟨_,aD (by have:=wM.o;omega)⟩;obtain⟨s,p,q,O⟩:=Xw.o k x m;have kv:=di (O wr N.o).1;have jB:=di (fun W h=>(O W h).2);have hbl:=sN s;have P:=di (zG m hak);have C:=di (mZ x);obtain⟨z,v⟩:=aJ (lJ x);rw[v]at jB hbl C;clear O s m v;go_wp2_with fail;refine kv.o.mono ?_;rintro e w2 ⟨rfl,Q⟩;have R:Below wr.heap.size wr (w2.alloc (.cells #[.string ⟨x.name.toArray⟩,.slice p x.args.length q,.int .i64 x.sort] 196)):=Q.alloc Q.size _;have HB3:=di (N.o.trans (R.mono N.o.size));have uO:=di (qy.o.trans (R.mono E));clear Q R;go_wp2_with fail;refine(jB.o _ HB3.o).mono ?_;rintro e w3 ⟨rfl,D⟩;have T:=di (uO.o.trans (D.mono (G.o _ uO.o).2.2.2.2));clear D;go_wp2_with fail;go_roundw
   case rel=>exact⟨k+1,_,bJ,aO,aO,rfl,by rw[P.o,List.flatMap_append,HY.o];simp[C.o],T.o⟩
   case measure=>exact akL
  ·have HYC:Hid (y=((S.syms.take c).drop a).flatMap Doc.jE):=by show _=_;rw[HY.o,show k=c by omega]
   go_wp2_with fail
   go_loopw [7,10] (fun L i wr=>∃(k:Nat) (z:List UInt8),i=.int .i64 k/\b<=k/\k<=d/\L=.string ⟨(y++z).toArray⟩/\z=((S.held.take k).drop b).flatMap (Doc.iw S.terms)/\Below (w.heap.size+1+1) ((w.alloc (.cells #[.int .i64 a,.int .i64 A,.int .i64 b] 133)).alloc (.cells #[.int .i64 c,.int .i64 B,.int .i64 d] 133)) wr) (fun _ i _=>d-(intOf i).toNat)
   case atStart=>exact⟨b,[],rfl,aO,hbd,aP,by rw[Cq];rfl,qy.o⟩
   case round=>
    clear b2 b0 bd E;obtain⟨g,z,rfl,hbk,hkd,rfl,v,r⟩:=hrel;rename World=>F;obtain⟨b2,b0,bd,u,E⟩:=G.o F r;have hcell:=Uv.o F u;have HBQ:=di r;have U:=di u;have HZ:=di v;have hzl:z.length<=12000:=by rw[v];exact HHL.o g
    have hyz:(y++z).length<=13000:=akf;obtain⟨bg,V⟩:=aJ (y++z);rw[V]at hyz ⊢;have HU:=di V;clear v r u V
    by_cases hlt2:g<d
    ·obtain⟨n,t⟩:∃n,S.held[g]?=some n:=⟨_,aD (by have:=Ul.o;omega)⟩;obtain⟨bn,rfl,d1⟩:=Uu.o F U.o g n t;have HC:=di (YI.o n (List.mem_of_getElem? t) F U.o);have P:=di (zG t hbk);have htl:=YK.o n;have C:Hid (Doc.iw S.terms n=[40,97,115,115,101,114,116,32]++Doc.fe S.terms n++[41,10]):=by show _=_;simp[Doc.iw,Doc.iM]
     obtain⟨X,htx⟩:=aJ (Doc.fe S.terms n);rw[htx]at HC htl C;have hkn:(g:Int)<(J:Int):=aO;clear t htx;go_wp2_with fail;refine HC.o.mono ?_;rintro e w3 ⟨rfl,D⟩;have T:=di (HBQ.o.trans (D.mono E));clear D;go_wp2_with fail;go_roundw
     case rel=>exact⟨g+1,z++([40,97,115,115,101,114,116,32]++X++[41,10]),bJ,aO,aO,by rw[<-HU.o];simp,by rw[P.o,List.flatMap_append,HZ.o];simp[C.o],T.o⟩
     case measure=>exact akL
    ·go_wp2_with fail;go_ret;exact⟨iB (by rw[QR.o,<-HU.o,HYC.o,HZ.o,show g=d by omega]),U.o⟩
theorem Bp {a:List Doc.Term}(h:∀t∈a,t.text.length<=800)(n:Nat):(Doc.iw a n).length<=1000:=by
 have:=AR h n;simp[Doc.iw,Doc.iM];exact aO
theorem Dy {S:Doc.dB}(a:Doc.fQ S)(b c d e:Nat):(Doc.part S b c d e).length<=13000:=by
 have g:(((S.syms.take d).drop b).flatMap Doc.jE).length<=1000:=by
  refine Nat.le_trans (mJ Doc.jE 100 _ (fun x f=>?_)) ?_
  ·rw[mZ,List.length_append];have:=sN (a.book.syms x (FN f));exact al6
  ·have:=vC S.syms b d;have:=a.book.few;exact aO
 have h:(((S.held.take e).drop c).flatMap (Doc.iw S.terms)).length<=12000:=by
  refine Nat.le_trans (mJ (Doc.iw S.terms) 1000 _ (fun x _=>Bp a.book.long x)) ?_;have:=vC S.held c e;have:=a.pE;exact aO
 unfold Doc.part;exact akf
theorem uj {S:Doc.dB}(d:Doc.fQ S):∀(c:List (Nat × Nat × Nat)) (a b:Nat),(Doc.kU S c a b).length<=(c.length+1)*14000:=by
 intro c
 induction c with
 | nil=>intro a b;have:=Dy d a b S.syms.length S.held.length;simp only[Doc.kU,List.length_nil];omega
 | cons l c e=>
  intro a b;have g:=Dy d a b l.1 l.2.2;have h:=e (max a l.1) (max b l.2.2);have f:Doc.pI.length=7:=rfl;simp only[Doc.kU,List.length_append,List.length_cons,f];rw[Nat.succ_mul];exact aO
structure ym (S:Doc.dB)(k f0 f2:Nat)(y:List UInt8):Prop where
 text:y++Doc.kU S (S.levels.drop k) f0 f2=Doc.print S
 a:f0<=S.syms.length
 b:f2<=S.held.length
 le:∀l∈S.levels.drop k,f0<=l.1/\f2<=l.2.2
theorem ym.next {S:Doc.dB}{l:Nat × Nat × Nat}(h:ym S n m k x)(g:Doc.fQ S)(i:S.levels[n]?=some l):m<=l.1/\k<=l.2.2/\l.1<=S.syms.length/\l.2.2<=S.held.length/\ym S (n+1) l.1 l.2.2 (x++(Doc.part S m k l.1 l.2.2++Doc.pI)):=by
 obtain⟨o,p⟩:=List.getElem?_eq_some_iff.1 i;have e:S.levels.drop n=l::S.levels.drop (n+1):=by rw[List.drop_eq_getElem_cons o,p]
 have a:l∈S.levels:=List.mem_of_getElem? i;have b:=h.le l (by rw[e];exact List.mem_cons_self);have c:=g.yJ l a;have f:(l::S.levels.drop (n+1)).Pairwise Doc.Lv.le:=by rw[<-e];exact g.mono.drop
 rw[List.pairwise_cons]at f;refine⟨b.1,b.2,c.a,c.c,⟨?_,c.a,c.c,fun j a=>⟨(f.1 j a).1,(f.1 j a).2.2⟩⟩⟩;have d:=h.text;rw[e]at d;simp only[Doc.kU]at d;rw[Nat.max_eq_right b.1,Nat.max_eq_right b.2]at d;rw[<-d];exact aP
theorem ym.len {S:Doc.dB}(h:ym S n m k x)(a:Doc.fQ S):x.length<=100000:=by
 have d:=uj a S.levels 0 0;have b:=congrArg List.length h.text;have c:Doc.print S=Doc.kU S S.levels 0 0:=rfl;have:=a.rY;rw[List.length_append,c]at b;have:(S.levels.length+1)*14000<=5*14000:=Nat.mul_le_mul_right _ aO;exact aO
structure ql (w wx:World)(f0 f1 f2:Nat):Prop where
 dG:Below w.heap.size w wx
 c0:wx.cell? ⟨w.heap.size,0,none⟩=some (.int .i64 f0)
 c1:wx.cell? ⟨w.heap.size,1,none⟩=some (.int .i64 f1)
 c2:wx.cell? ⟨w.heap.size,2,none⟩=some (.int .i64 f2)
 fr:∀o,wx.frozen? ⟨w.heap.size,o,none⟩=false
 lt:w.heap.size<wx.heap.size
theorem ql.below (h:ql w W n m k)(a:Below W.heap.size W u):ql w u n m k:=
 ⟨h.dG.trans (a.mono (Nat.le_of_lt h.lt)),(a.cell (p:=⟨w.heap.size,0,none⟩) h.lt).trans h.c0,(a.cell (p:=⟨w.heap.size,1,none⟩) h.lt).trans h.c1,(a.cell (p:=⟨w.heap.size,2,none⟩) h.lt).trans h.c2,fun o=>(a.frozen (p:=⟨w.heap.size,o,none⟩) h.lt).trans (h.fr o),Nat.lt_of_lt_of_le h.lt a.size⟩
theorem ql.put (h:ql w W n m k)(d e f:Nat):ql w (((W.setCell ⟨w.heap.size,0,none⟩ (.int .i64 d)).setCell ⟨w.heap.size,1,none⟩ (.int .i64 e)).setCell ⟨w.heap.size,2,none⟩ (.int .i64 f)) d e f:=by
 have a:∀(b c:Nat),b≠c->(⟨w.heap.size,b,none⟩:Addr)≠⟨w.heap.size,c,none⟩:=fun b c h g=>h (by injection g);refine⟨((h.dG.setCell ae _).setCell ae _).setCell ae _,?_,?_,?_,?_,?_⟩
 ·rw[ak (a 2 0 aO),ak (a 1 0 aO)];exact World.cell?_setCell_same _ _ _ h.c0
 ·rw[ak (a 2 1 aO)];exact World.cell?_setCell_same _ _ _ ((ak (a 0 1 aO)).trans h.c1)
 ·exact World.cell?_setCell_same _ _ _ ((ak (a 1 2 aO)).trans ((ak (a 0 2 aO)).trans h.c2))
 ·intro o;rw[World.frozen?_setCell,World.frozen?_setCell,World.frozen?_setCell];exact h.fr o
 ·simp only[World.setCell,Array.size_modify];exact h.lt
theorem QB (m n:Nat)(own:Own)(S:Doc.dB)(w:World)(t:dA w own n m S)(O:dH own w)(hk:n≠0)(x:Doc.fQ S)(P:eU w) :
 Calls Tryz.prog 34 #[.pointer (some ⟨m,0,none⟩)] w fun f z=>f=.returned (.string ⟨(Doc.print S).toArray⟩)/\Below w.heap.size w z:=by
 have hR:=fJ;have hl4:=x.rY;obtain⟨aL,abY,_,_,Q,hcap,hmax,_,_,R⟩:=zZ t O hk aO 0 aO
 have afF:Hid (∀i l,S.levels[i]?=some l->∃u,aL=some ⟨u,0,none⟩/\u<w.heap.size/\∀W,Below w.heap.size w W->W.cell? ⟨u,i*3,none⟩=some (.int .i64 l.1)/\W.cell? ⟨u,i*3+1,none⟩=some (.int .i64 l.2.1)/\W.cell? ⟨u,i*3+2,none⟩=some (.int .i64 l.2.2)):=fun i l A=>by
  obtain⟨hi,hl'⟩:=List.getElem?_eq_some_iff.1 A;subst hl';exact R i hi
 have T:Hid (∀p H q g I j,p<=g->g<=S.syms.length->q<=j->j<=S.held.length->∀W,Below w.heap.size w W->Calls Tryz.prog 87 #[.pointer (some ⟨m,0,none⟩),.agg #[.int .i64 (p:Nat),.int .i64 (H:Nat),.int .i64 (q:Nat)],.agg #[.int .i64 (g:Nat),.int .i64 (I:Nat),.int .i64 (j:Nat)]] W fun f z=>f=.returned (.string ⟨(Doc.part S p q g j).toArray⟩)/\Below W.heap.size W z):=
  fun p H q g I j h1 h2 h3 h4 W h=>IA m S p H q g I j W x (t.book.below h) (t.abt.below h) (P.below h) h1 h2 h3 h4
 have XD:Hid (∀W,Below w.heap.size w W->Calls Tryz.prog 88 #[.pointer (some ⟨m,0,none⟩)] W fun f z=>f=.returned (.agg #[.int .i64 S.syms.length,.int .i64 S.terms.length,.int .i64 S.held.length])/\Below W.heap.size W z):=fun W h=>Nw m n own S W (t.below h);have U:=di x;have ry:Hid (ym S 0 0 0 []):=⟨by simp[Doc.print],aO,aO,fun l _=>⟨aO,aO⟩⟩;have V:=di (fun p q g j=>Dy x p q g j)
 have X:Hid (∀a b y,ym S S.levels.length a b y->Doc.print S=y++Doc.part S a b S.syms.length S.held.length):=fun a b y h=>by
  have:=h.text;rw[List.drop_length]at this;exact this.symm
 have Uf:Hid (Doc.pI=[40,112,117,115,104,41,10]):=rfl;have hsb:=t.lt;have Y:Hid (ql w (w.alloc (.cells #[.int .i64 (0:Nat),.int .i64 (0:Nat),.int .i64 (0:Nat)] 133)) 0 0 0):=⟨ag,aP,aP,aP,fun o=>aP,aP⟩;have aeA:=((Y.o.dG).cell (p:=⟨m,3,none⟩) hsb).trans Q;generalize Doc.print S=res at *;obtain⟨L,J⟩:=aJ S.levels.length;rw[J]at hl4 hcap Q aeA X;have HL:=di J;clear R t O P x J;go_enter Tryz.func34,Tryz.ntmps34;go_wp2_with fail
 go_loopw [3,14] (fun bg i wr=>∃(n a G b:Nat) (y:List UInt8),i=.int .i64 n/\n<=L/\bg=.string ⟨y.toArray⟩/\ym S n a b y/\ql w wr a G b) (fun _ i _=>L-(intOf i).toNat)
 case atStart=>exact⟨0,0,0,0,[],rfl,aO,rfl,ry.o,Y.o⟩
 case round=>
  obtain⟨B,a,G,b,y,rfl,hq,rfl,k,c⟩:=hrel;have HST:=di k;have YW:=di c;have hyl:=k.len U.o;have Z:=c.c0;have b1:=c.c1;have b2:=c.c2;have blt:=c.lt;have bfr:=c.fr
  by_cases hlt:B<L
  ·obtain⟨l,A⟩:∃l,S.levels[B]?=some l:=⟨_,aD (by rw[HL.o];exact hlt)⟩;obtain⟨u,rfl,hgl,K⟩:=afF.o B l A;obtain⟨z0,z1,z2⟩:=K wr c.dG;obtain⟨y0,y1,y2⟩:=K (wr.alloc (.cells #[.int .i64 0,.int .i64 0,.int .i64 0] 133)) (c.dG.alloc c.dG.size _);obtain⟨e1,e2,e3,e4,M⟩:=k.next U.o A;obtain⟨r,C,s⟩:=l;simp only at z0 z1 z2 y0 y1 y2 e1 e2 e3 e4 M;have jO:=di M;have D:Below wr.heap.size wr (wr.alloc (.cells #[.int .i64 r,.int .i64 C,.int .i64 s] 133)):=ag;have d:=di (c.below D);have c0:=d.o.c0;have c1:=d.o.c1;have c2:=d.o.c2;have kI:=di (T.o a G b r C s e1 e3 e2 e4 _ d.o.dG);have N:=V.o a b r s;obtain⟨E,F⟩:=aJ (Doc.part S a b r s);rw[F]at kI N jO;clear k c K M D A F;go_wp2_with fail;refine kI.o.mono ?_;rintro f w3 ⟨rfl,e⟩;have v:=d.o.below e;have afB:=di (v.put r C s);have hs3:=e.size;simp only[World.size_alloc]at hs3;have t0:=(e.cell (p:=⟨wr.heap.size,0,none⟩) aP).trans (show _=some (.int .i64 (r:Int)) by simp);have t1:=(e.cell (p:=⟨wr.heap.size,1,none⟩) aP).trans (show _=some (.int .i64 (C:Int)) by simp);have t2:=(e.cell (p:=⟨wr.heap.size,2,none⟩) aP).trans (show _=some (.int .i64 (s:Int)) by simp);have v0:=v.c0;have v1:=v.c1;have v2:=v.c2;have vf:=v.fr;clear e v z0 z1 z2 y0 y1 y2 Z b1 b2 c0 c1 c2 bfr;go_wp2_with fail;go_roundw
   case rel=>exact⟨B+1,r,C,s,_,bJ,aO,rfl,by have:=jO.o;rw[Uf.o]at this;exact this,afB.o⟩
   case measure=>exact akL
  ·have HE:=di (X.o a b y (by rw[show L=B by omega];exact k));have HN:=di (XD.o wr c.dG);have ha:=k.a;have hb:=k.b;have Dl:=di (fun W h=>T.o a G b S.syms.length S.terms.length S.held.length ha ae hb ae W h);have N:=V.o a b S.syms.length S.held.length;obtain⟨E,F⟩:=aJ (Doc.part S a b S.syms.length S.held.length);rw[F]at Dl N HE;clear k c F;go_wp2_with fail;refine HN.o.mono ?_;rintro f w3 ⟨rfl,e⟩;have D:Below wr.heap.size wr (w3.alloc (.cells #[.int .i64 S.syms.length,.int .i64 S.terms.length,.int .i64 S.held.length] 133)):=e.alloc e.size _;have d:=di (YW.o.below D);have c0:=d.o.c0;have c1:=d.o.c1;have c2:=d.o.c2;clear e D Z b1 b2 bfr;go_wp2_with fail;refine(Dl.o _ d.o.dG).mono ?_;rintro f w4 ⟨rfl,hb4⟩;have uO:=di (d.o.dG.trans (hb4.mono d.o.dG.size));clear hb4;go_wp2_with fail;go_ret;exact⟨iB HE.o.symm,uO.o⟩
theorem OL (s:Nat)(b:Bool)(w:World):Calls Tryz.prog 256 #[.int .i64 s,.bool b] w fun e a=>e=.returned (.int .i64 (Doc.iA s b:Nat))/\a=w:=by
 cases b
 all_goals
  go_enter Tryz.func256,Tryz.ntmps256;go_wp2_with fail;go_ret;exact⟨rfl,rfl⟩
theorem gG (h:dY w (.slice a n m) l):n=l.length/\l.length<=m/\m<=2 ^ 63-1:=by
 obtain⟨_,_,c,d,b,_⟩:=h;injection c with _ e f
 subst f;unfold maxLen at b;exact⟨e,d,b⟩
theorem aag (a:List Nat)(A:Option Addr)(p s b c:Nat)(w:World)(i:dY w (.slice A a.length p) a) :
 Calls Tryz.prog 257 #[.slice A a.length p,.int .i64 s,.int .i64 b,.int .i64 c] w fun B C=>B=.returned (.bool (Doc.fH a s b c))/\C=w:=by
 obtain⟨_,D,H⟩:=gG i;have E:=di (eY i);have g:Hid (Doc.fH a s b c=(decide (b<=a.length)&&decide (a.length<=c)&&a.all (fun x=>x==s))):=rfl;generalize Doc.fH a s b c=f at *;clear i;obtain⟨L,j⟩:=aJ a.length;rw[j]at D g ⊢;have q:=di j;clear j
 by_cases r:b<=L
 ·by_cases t:L<=c
  ·have d:Hid (f=a.all (fun x=>x==s)):=by show _=_;rw[g.o,decide_eq_true r,decide_eq_true t];rfl
   have u:¬((L:Int)<(b:Int)):=aO;have F:¬((c:Int)<(L:Int)):=aO;go_enter Tryz.func257,Tryz.ntmps257;go_wp2_with fail
   go_loop [23] (fun l=>∃k:Nat,l=.int .i64 k/\k<=L/\a.all (fun x=>x==s)=(a.drop k).all (fun x=>x==s)) (fun l=>L-(intOf l).toNat)
   case atStart=>exact⟨0,rfl,aO,rfl⟩
   case round=>
    obtain⟨k,rfl,I,v⟩:=hrel;have m:=di v;clear v
    by_cases G:k<L
    ·have h:k<a.length:=by rw[q.o];exact G
     obtain⟨z,e⟩:∃z,a[k]?=some z:=⟨_,aD h⟩;obtain⟨J,rfl,K⟩:=E.o k z e
     have y:Hid (a.drop k=z::a.drop (k+1)):=by
      show _=_;rw[List.drop_eq_getElem_cons h];rw[aD h]at e;injection e with e;rw[e]
     clear e h
     by_cases n:z=s
     ·subst n;go_wp2_with fail
      go_round
      case rel=>exact⟨k+1,bJ,aO,by rw[m.o,y.o];simp⟩
      case measure=>exact akL
     ·have M:((z:Int) !=(s:Int))=true:=aQ;have o:Hid (f=false):=by show _=_;rw[d.o,m.o,y.o];simp[n]
      clear n;go_wp2_with fail;go_ret;exact⟨dK o.o.symm,rfl⟩
    ·have o:Hid (f=true):=by show _=_;rw[d.o,m.o,List.drop_eq_nil_of_le (by rw[q.o];omega)];rfl
     go_wp2_with fail;go_ret;exact⟨dK o.o.symm,rfl⟩
  ·have d:Hid (f=false):=by show _=_;rw[g.o,decide_eq_false t];simp
   have u:¬((L:Int)<(b:Int)):=aO;have F:(c:Int)<(L:Int):=aO;exact amK
 ·have d:Hid (f=false):=by show _=_;rw[g.o,decide_eq_false r];simp
  have u:(L:Int)<(b:Int):=aO;exact amK
def jT (sorts:List Nat):Nat:=if sorts.length≠3\/sorts.getD 0 0≠1\/sorts.getD 1 0≠sorts.getD 2 0 then 0 else sorts.getD 1 0
theorem F8 (c:List Nat)(A:Option Addr)(p:Nat)(w:World)(i:dY w (.slice A c.length p) c) :
 Calls Tryz.prog 258 #[.slice A c.length p] w fun q r=>q=.returned (.int .i64 (jT c:Nat))/\Below w.heap.size w r:=by
 obtain⟨_,s,u⟩:=gG i;have f:=di (eY i);have h:Hid (∀n,Below w.heap.size w (w.drewN n)):=fun n=>below_drewN af n;clear i
 by_cases j:c.length=3
 ·match c,j with
  | [g,b,d],_=>
   obtain⟨v,rfl,x⟩:=f.o 0 g rfl;obtain⟨t,a,y⟩:=f.o 1 b rfl;injection a with a
   injection a with a;subst a;obtain⟨t,a,z⟩:=f.o 2 d rfl;injection a with a;injection a with a;subst a;simp only[List.length_cons,List.length_nil]at s ⊢;clear f
   by_cases k:g=1
   ·subst k
    by_cases l:b=d
    ·subst l;have e:Hid (jT [1,b,b]=b):=by show _=_;simp[jT]
     generalize jT [1,b,b]=m at *;have o:((b:Int) !=(b:Int))=false:=aP;go_enter Tryz.func258,Tryz.ntmps258;go_wp2_with fail;go_quiet (fail);go_wp2_with fail;go_ret;exact⟨fB (by rw[e.o]),h.o _⟩
    ·have e:Hid (jT [1,b,d]=0):=by show _=_;simp[jT,l]
     generalize jT [1,b,d]=m at *;have o:((b:Int) !=(d:Int))=true:=aQ;clear l;exact alr
   ·have e:Hid (jT [g,b,d]=0):=by show _=_;simp[jT,k]
    generalize jT [g,b,d]=m at *;have o:((g:Int) !=1)=true:=aQ;clear k;exact alr
 ·have e:Hid (jT c=0):=by show _=_;simp[jT,j]
  generalize jT c=m at *;have o:((c.length:Int) !=3)=true:=aQ;clear f j;generalize c.length=L at *;exact alr
theorem kP (h:n=m):Ending.returned (.int .i64 (n:Int))=.returned (.int .i64 (m:Int)):=by rw[h]
theorem Dz (b:Nat)(a:List Nat)(A:Option Addr)(p:Nat)(w:World)(j:dY w (.slice A a.length p) a)(P:5<=b)(Q:b<=19) :
 Calls Tryz.prog 247 #[.int .i64 b,.slice A a.length p] w fun e f=>e=.returned (.int .i64 (Doc.fo b a:Nat))/\Below w.heap.size w f:=by
 have i:=fun F G H=>aag a A p F G H w j;have u:=di (i 1 1 1);have q:=di (i 1 2 4);have r:=di (i 1 2 2);have s:=di (i 2 2 4);have v:=di (i 3 2 4);have k:=di (i 2 2 2);have x:=di (i 2 1 2);have d:=di OL;have t:=di (F8 a A p w j);obtain⟨_,I,R⟩:=gG j;have h:Hid (Below w.heap.size w w):=af;have y:Hid (∀z,Below w.heap.size w (w.drewN z)):=fun z=>below_drewN af z
 by_cases J:b=10
 ·subst J
  by_cases B:a.length=2
  ·match a,B with
   | [l,m],_=>
    obtain⟨S,rfl,T⟩:=eY j 0 l rfl;obtain⟨U,n,V⟩:=eY j 1 m rfl;injection n with n
    injection n with n;subst n;clear j i u q r s v k x t;simp only[List.length_cons,List.length_nil]at I ⊢
    have K:((l:Int)==(m:Int))=(l==m):=by
     by_cases o:l=m
     ·subst o;exact aP
     ·rw[beq_eq_false_iff_ne.2 o,beq_eq_false_iff_ne];exact aO
    have c:Hid (Doc.fo 10 [l,m]=Doc.iA 1 (l==m)):=rfl;rw[c.o];cases o:(l==m)
    all_goals
     rw[o]at K;clear o c;exact alF
  ·have c:Hid (Doc.fo 10 a=Doc.iA 1 false):=by show _=_;simp[Doc.fo,B]
   have W:((a.length:Int)==2)=false:=aj aO;rw[c.o];clear j i u q r s v k x t B c;generalize a.length=X at *;exact alF
 ·by_cases L:b=16
  ·subst L;have c:Hid (Doc.fo 16 a=jT a):=rfl;rw[c.o];clear j i;go_enter Tryz.func247,Tryz.ntmps247;go_wp2_with fail;refine t.o.mono ?_;rintro e g ⟨rfl,C⟩;have M:=di C;clear C;go_wp2_with fail;go_ret;exact⟨rfl,M.o⟩
  ·by_cases N:b=11
   ·subst N;have c:Hid (Doc.fo 11 a=Doc.iA 1 (Doc.fH a 2 2 4||Doc.fH a 3 2 4)):=rfl;rw[c.o];clear j i c;generalize Doc.fH a 2 2 4=D at *;generalize Doc.fH a 3 2 4=O at *;cases D
    all_goals
     go_enter Tryz.func247,Tryz.ntmps247;go_wp2_with fail;refine s.o.mono ?_;rintro e g ⟨rfl,rfl⟩;go_wp2_with (first|(go_at_call 257;refine v.o.mono ?_;rintro e g ⟨rfl,rfl⟩)|(go_at_call 256;refine(d.o 1 _ _).mono ?_;rintro e f ⟨rfl,rfl⟩));go_ret;exact⟨rfl,h.o⟩
   ·have E:b=5\/b=6\/b=7\/b=8\/b=9\/b=12\/b=13\/b=14\/b=15\/b=17\/b=18\/b=19:=aO
    have c:Hid (Doc.fo b a=if b=5 then Doc.iA 1 (Doc.fH a 1 1 1) else if b=6\/b=7 then Doc.iA 1 (Doc.fH a 1 2 4) else if b=8\/b=9 then Doc.iA 1 (Doc.fH a 1 2 2) else if b=12\/b=13\/b=14\/b=15 then Doc.iA 1 (Doc.fH a 2 2 2) else if b=17 then Doc.iA 2 (Doc.fH a 2 2 4) else if b=18 then Doc.iA 2 (Doc.fH a 2 1 2) else Doc.iA 2 (Doc.fH a 2 2 2)):=by
     show _=_;rcases E with rfl|rfl|rfl|rfl|rfl|rfl|rfl|rfl|rfl|rfl|rfl|rfl<;>simp[Doc.fo]
    clear j i t y;generalize Doc.fo b a=Y at *;generalize Doc.fH a 1 1 1=D at *;generalize Doc.fH a 1 2 4=O at *;generalize Doc.fH a 1 2 2=Z at *;generalize Doc.fH a 2 2 4=b4 at *;generalize Doc.fH a 2 2 2=b6 at *;generalize Doc.fH a 2 1 2=b7 at *;rcases E with rfl|rfl|rfl|rfl|rfl|rfl|rfl|rfl|rfl|rfl|rfl|rfl
    ·go_enter Tryz.func247,Tryz.ntmps247;go_wp2_with (first|(go_at_call 257;refine u.o.mono ?_;rintro e g ⟨rfl,rfl⟩)|(go_at_call 256;refine(d.o 1 _ _).mono ?_;rintro e f ⟨rfl,rfl⟩));go_ret;exact⟨kP aie,h.o⟩
    ·exact alB
    ·exact alB
    ·exact alA
    ·exact alA
    ·exact ak4
    ·exact ak4
    ·exact ak4
    ·exact ak4
    ·go_enter Tryz.func247,Tryz.ntmps247;go_wp2_with (first|(go_at_call 257;refine s.o.mono ?_;rintro e g ⟨rfl,rfl⟩)|(go_at_call 256;refine(d.o 2 _ _).mono ?_;rintro e f ⟨rfl,rfl⟩));go_ret;exact⟨kP aie,h.o⟩
    ·go_enter Tryz.func247,Tryz.ntmps247;go_wp2_with (first|(go_at_call 257;refine x.o.mono ?_;rintro e g ⟨rfl,rfl⟩)|(go_at_call 256;refine(d.o 2 _ _).mono ?_;rintro e f ⟨rfl,rfl⟩));go_ret;exact⟨kP aie,h.o⟩
    ·go_enter Tryz.func247,Tryz.ntmps247;go_wp2_with (first|(go_at_call 257;refine k.o.mono ?_;rintro e g ⟨rfl,rfl⟩)|(go_at_call 256;refine(d.o 2 _ _).mono ?_;rintro e f ⟨rfl,rfl⟩));go_ret;exact⟨kP aie,h.o⟩
end Go.Proofs.YtbichedkajfmiaaGreatDoor
