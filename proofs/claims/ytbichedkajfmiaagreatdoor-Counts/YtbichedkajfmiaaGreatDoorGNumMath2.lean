import Derived.Test.YtbichedkajfmiaaGreatDoorProg
import Derived.WalkKit
import Derived.WalkLawsBesides
import Derived.WalkSpells
import GoSem.Op.String
import Derived.Test.YtbichedkajfmiaaGreatDoorGDoc0
import Derived.Test.YtbichedkajfmiaaGreatDoorB
set_option maxRecDepth 100000
set_option maxHeartbeats 16000000
namespace dn
variable {N i j k m n:Nat}{Z z:Int}{x:List UInt8}
structure Ci (A B k c:Nat)(t:List UInt8):Prop where
 dg:Dg t
 len:t.length=k
 sum:A % 10 ^ k+B % 10 ^ k=val t+c*10 ^ k
 Ty:c<=1
theorem TJ (A B:Nat):Ci A B 0 0 []:=⟨oZ,rfl,by simp[Nat.mod_one],aO⟩
theorem mod_succ (A k:Nat):A % 10 ^ (k+1)=A % 10 ^ k+10 ^ k*(A / 10 ^ k % 10):=by rw[Nat.mod_pow_succ]
theorem Xf (h:Ci n m k i x){a y:Nat}(b:a=n / 10 ^ k % 10)(c:y=m / 10 ^ k % 10) :
 Ci n m (k+1) ((i+a+y) / 10) (oW (i+a+y)::x):=by
 have g:=h.Ty;have j:=h.sum;have l:a<=9:=aO;have o:y<=9:=aO;refine⟨sF (EM _) h.dg,by simp[h.len],?_,aO⟩;rw[rT,EK,h.len,mod_succ,mod_succ,<-b,<-c,Nat.pow_succ];generalize 10 ^ k=p at *;have e:(i+a+y)=10*((i+a+y) / 10)+(i+a+y) % 10:=aO;generalize (i+a+y) / 10=q at *;generalize (i+a+y) % 10=r at *;have d:(i+a+y)*p=(10*q+r)*p:=by rw[e]
 rw[Nat.add_mul,Nat.add_mul,Nat.add_mul]at d;have f:q*(p*10)=10*q*p:=by rw[Nat.mul_comm p 10,<-Nat.mul_assoc,Nat.mul_comm q 10]
 rw[f,Nat.mul_comm p a,Nat.mul_comm p y];exact aO
theorem aah (h:Ci n m k 0 x)(a:n<10 ^ k)(b:m<10 ^ k):val x=n+m:=by
 have:=h.sum;rw[Nat.mod_eq_of_lt a,Nat.mod_eq_of_lt b]at this;exact aO
theorem Z4 (h:n<10 ^ m):n / 10 ^ m % 10=0:=by rw[Nat.div_eq_of_lt h]
structure BJ (A B k c:Nat)(t:List UInt8):Prop where
 dg:Dg t
 len:t.length=k
 sum:A % 10 ^ k+c*10 ^ k=B % 10 ^ k+val t
 Ty:c<=1
theorem Rw (A B:Nat):BJ A B 0 0 []:=⟨oZ,rfl,by simp[Nat.mod_one],aO⟩
theorem Jl (h:BJ n m k i x){a y:Nat}(b:a=n / 10 ^ k % 10)(c:y=m / 10 ^ k % 10)
 (d:a+10*N=y+i+j) (l:j<=9) (e:N<=1):BJ n m (k+1) N (oW j::x):=by
 have o:=h.sum;refine⟨sF (EM _) h.dg,by simp[h.len],?_,e⟩;rw[rT,EK,h.len,mod_succ,mod_succ,<-b,<-c,Nat.pow_succ,Nat.mod_eq_of_lt (show j<10 by omega)];generalize 10 ^ k=p at *;have f:(a+10*N)*p=(y+i+j)*p:=by rw[d]
 rw[Nat.add_mul,Nat.add_mul,Nat.add_mul]at f;have g:N*(p*10)=10*N*p:=by rw[Nat.mul_comm p 10,<-Nat.mul_assoc,Nat.mul_comm N 10]
 rw[g,Nat.mul_comm p a,Nat.mul_comm p y];exact aO
theorem Zv (h:BJ n m k i x)(b:n<10 ^ k)(e:m<=n):val x=n-m:=by
 have c:=h.sum;have d:=qC h.dg;rw[h.len]at d;rw[Nat.mod_eq_of_lt b,Nat.mod_eq_of_lt (show m<10 ^ k by omega)]at c;have f:=h.Ty
 have:i=0:=by
  rcases Nat.eq_zero_or_pos i with a|a
  ·exact a
  ·have:i=1:=aO;subst this;exact aO
 subst this;exact aO
theorem IP {b:List UInt8}(d:Dg x)(e:Dg b)(f:x.length=b.length):Go.Op.bytesLess x b=decide (val x<val b):=by
 induction x generalizing b with
 | nil=>cases b with
  | nil=>simp[Go.Op.bytesLess]
  | cons y b=>simp at f
 | cons a x k=>cases b with
  | nil=>simp at f
  | cons y b=>
   have g:x.length=b.length:=ajB;rw[Go.Op.bytesLess,k (vF d) (vF e) g,rT,rT,g];have l:=qC (vF d);have q:=qC (vF e);rw[g]at l;have r:=F5 d;have s:=F5 e
   have j:∀u v:Nat,u<v->u*10 ^ b.length+10 ^ b.length<=v*10 ^ b.length:=fun u v h=>by
    rw[<-Nat.succ_mul];exact Nat.mul_le_mul_right _ h
   rcases Nat.lt_trichotomy a.toNat y.toNat with h|h|h
   ·have c:a<y:=UInt8.lt_iff_toNat_lt.2 h;have m:=j (dv a) (dv y) (by unfold dv;omega);simp[c];exact aO
   ·have c:a=y:=jM h;subst c;exact aP
   ·have c:¬a<y:=fun i=>by have:=UInt8.lt_iff_toNat_lt.1 i;omega
    have n:a≠y:=fun i=>by rw[i]at h;omega
    have m:=j (dv y) (dv a) (by unfold dv;omega);have o:¬(dv a*10 ^ b.length+val x<dv y*10 ^ b.length+val b):=aO;have p:(a==y)=false:=by simpa using n
    rw[p,decide_eq_false o,decide_eq_false c];rfl
theorem aaK (a b:Nat):(if (D a).length≠(D b).length then decide ((D a).length<(D b).length) else Go.Op.bytesLess (D a) (D b))=decide (a<b):=by
 split
 ·rename_i h
  by_cases c:(D a).length<(D b).length
  ·have g:=Ch a
   have e:0<b:=by
    rcases Nat.eq_zero_or_pos b with d|d
    ·subst d;rw[iL]at c;simp at c
    ·exact d
   have i:=agu e;have j:10 ^ (D a).length<=10 ^ ((D b).length-1):=Nat.pow_le_pow_right aO aO;simp[c];exact aO
  ·have:¬a<b:=fun f=>by have:=lh (Nat.le_of_lt f);omega
   simp[c];exact aO
 ·rename_i h;rw[IP (mP a) (mP b) aO,kT,kT]
def dec (z:Int):List UInt8:=if z<0 then 45::D z.natAbs else if z=0 then [48] else D z.toNat
theorem gH:dec 0=[48]:=by simp[dec]
theorem kS:dec 1=[49]:=by simp[dec,CG];rfl
theorem pg:dec (-1)=[45,49]:=by simp[dec,CG];rfl
theorem vG (h:z<0):dec z=45::D z.natAbs:=by simp[dec,h]
theorem F6 (h:0<z):dec z=D z.natAbs:=by
 rw[dec,if_neg aO,if_neg aO];congr 1;omega
theorem ve (z:Int):dec z≠[]:=by
 unfold dec;split
 ·exact aP
 ·split
  ·exact aP
  ·rw[Ne,pY];exact aO
theorem Ir {c:UInt8}(h:D n=c::x):c≠45:=by
 have:=mP n c (by rw[h];simp);intro e;subst e;have a:(45:UInt8).toNat=45:=rfl;exact aO
theorem zY (z:Int):(dec z).head?=some 45↔z<0:=by
 unfold dec;split
 ·simp;assumption
 ·split
  ·exact aQ
  ·cases h:D z.toNat with
   | nil=>simp;omega
   | cons c l=>simp[Ir h];omega
theorem mK (z:Int):(dec z).length<=(D z.natAbs).length+1:=by
 unfold dec;split
 ·exact aP
 ·split
  ·exact aP
  ·rw[show z.toNat=z.natAbs by omega];exact aO
theorem gq (z:Int):(D z.natAbs).length<=(dec z).length:=by
 unfold dec;split
 ·exact aP
 ·split
  ·rename_i h;subst h;simp[iL]
  ·rw[show z.toNat=z.natAbs by omega];exact aO
theorem EP {z:Int}(h:0<=z):plain (dec z)=D z.natAbs/\Dg (dec z):=by
 unfold dec;rw[if_neg aO];split
 ·rename_i a;subst a;exact⟨by simp[plain,iL],sF ⟨aR,aR⟩ oZ⟩
 ·rw[show z.toNat=z.natAbs by omega];exact⟨by rw[vQ (mP _),kT],mP _⟩
theorem UJ (h:Dg x)(neg:Bool) :
 (if plain x=[] then [48] else if neg then 45::plain x else plain x)=dec (if neg then -(val x:Int) else val x):=by
 rw[vQ h]
 by_cases a:val x=0
 ·rw[a,iL];cases neg<;>simp[dec]
 ·have b:D (val x)≠[]:=fun e=>a (pY.1 e);rw[if_neg b];cases neg
  ·simp only[Bool.false_eq_true,if_false];rw[F6 aO];exact aP
  ·simp only[if_true];rw[vG aO];exact aP
theorem NF (h:dec z=dec Z):z=Z:=by
 have c:∀a:Int,a=if (dec a).head?=some 45 then -(val (dec a).tail:Int) else val (dec a):=by
  intro a;split
  ·rename_i b;have:=(zY a).1 b;rw[vG this];simp[kT];exact aO
  ·rename_i b;have g:¬a<0:=fun e=>b ((zY a).2 e);have d:=(EP (z:=a) aO).1;have f:=A8 (dec a);rw[d,kT]at f;exact aO
 rw[c z,c Z,h]
def Is (t:List UInt8):Bool:=
 t==[48]||(let u:=if t.head?=some 45 then t.tail else t;u.all (fun c=>48<=c&&c<=57)&&!u.isEmpty&&u.head? !=some 48)
theorem Cg:x.all (fun c=>48<=c&&c<=57)=true↔Dg x:=by
 rw[List.all_eq_true];constructor
 ·intro h c a;have:=h c a;exact amM
 ·intro h c a;have:=h c a;simp only[Bool.and_eq_true,decide_eq_true_eq,UInt8.le_iff_toNat_le];exact this
theorem agz (z:Int):Is (dec z)=true:=by
 unfold Is;rcases Int.lt_trichotomy z 0 with h|h|h
 ·rw[vG h];have b:D z.natAbs≠[]:=fun e=>by have:=pY.1 e;omega
  have a:=X3 z.natAbs;have c:=Cg.2 (mP z.natAbs)
  have d:(D z.natAbs).isEmpty=false:=by cases e:D z.natAbs with
   | nil=>exact absurd e b
   | cons=>rfl
  simp only[List.head?_cons,if_true,List.tail_cons];rw[c,d];simp[rH]at a;simp[a]
 ·subst h;rw[gH];rfl
 ·rw[F6 h];have b:D z.natAbs≠[]:=fun e=>by have:=pY.1 e;omega
  have a:=X3 z.natAbs;have c:=Cg.2 (mP z.natAbs)
  have f:(D z.natAbs).head?≠some 45:=by
   cases e:D z.natAbs with
   | nil=>simp
   | cons g l=>simp[Ir e]
  have d:(D z.natAbs).isEmpty=false:=by cases e:D z.natAbs with
   | nil=>exact absurd e b
   | cons=>rfl
  simp only[if_neg f];rw[c,d];simp[rH]at a;simp[a]
theorem qi {t:List UInt8}(h:Is t=true):∃z:Int,t=dec z:=by
 unfold Is at h;simp only[Bool.or_eq_true,beq_iff_eq,Bool.and_eq_true]at h;rcases h with h|⟨⟨a,c⟩,d⟩
 ·exact⟨0,by rw[h,gH]⟩
 ·by_cases f:t.head?=some 45
  ·rw[if_pos f]at a c d;have a:=Cg.1 a;cases t with
   | nil=>simp at f
   | cons i u=>
    simp only[List.head?_cons,Option.some.injEq]at f;subst f;simp only[List.tail_cons]at a c d;simp at c d;have e:=Bw a (by simpa[rH] using d)
    have g:0<val u:=by
     rcases Nat.eq_zero_or_pos (val u) with b|b
     ·rw[b,iL]at e;simp[e]at c
     ·exact b
    refine⟨-(val u:Int),?_⟩;rw[vG aO];simp only[Int.natAbs_neg,Int.natAbs_natCast];rw[<-e]
  ·rw[if_neg f]at a c d;have a:=Cg.1 a;have e:=Bw a (by simpa[rH] using d)
   have g:0<val t:=by
    rcases Nat.eq_zero_or_pos (val t) with b|b
    ·rw[b,iL]at e;simp[e]at c
    ·exact b
   exact⟨(val t:Int),by rw[F6 aO];simpa using e⟩
end dn
namespace Go.Proofs.YtbichedkajfmiaaGreatDoor
open Go.RowKit
variable {W w:World}{Z z:Int}{b:List Value}{e:TypeId}{i k m n:Nat}{l:List Nat}{v:Value}{x:List UInt8}
def Jn:Value->Nat|.string s=>s.size|_=>0
theorem Gy (l:List UInt8):Jn (.string ⟨l.toArray⟩)=l.length:=by simp[Jn,ByteArray.size]
theorem ab2 (l:List UInt8)(i:Nat)(h:i<(ByteArray.mk l.toArray).size):(ByteArray.mk l.toArray)[i]'h=l[i]'(by simpa[ByteArray.size] using h):=rfl
theorem Qq (l:List UInt8)(i j:Nat):(ByteArray.mk l.toArray).extract i j=⟨((l.take j).drop i).toArray⟩:=by
 apply ByteArray.ext;simp[ByteArray.data_extract,List.extract_eq_take_drop,List.drop_take]
theorem TC (l:List UInt8):(ByteArray.mk l.toArray).toList=l:=by
 rw[ByteArray.toList_eq]
theorem ab3 (x y:List UInt8):(ByteArray.mk x.toArray++ByteArray.mk y.toArray)=ByteArray.mk (x++y).toArray:=ByteArray.mk_append_mk x y
theorem iB {b:List UInt8}(h:x=b):Ending.returned (.string ⟨x.toArray⟩)=.returned (.string ⟨b.toArray⟩):=by rw[h]
theorem fB {k:IntKind}(h:z=Z):Ending.returned (.int k z)=.returned (.int k Z):=by rw[h]
theorem dK {a b:Bool}(h:a=b):Ending.returned (.bool a)=.returned (.bool b):=by rw[h]
def byteOf (n:Int):UInt8:=UInt8.ofNat n.toNat
theorem IZ (w:World)(n:Int):(convert 179 9 (.slice (some ⟨w.heap.size,0,none⟩) 1 1)).run Tryz.prog (w.alloc (.cells #[.int .u8 n] 5))=.ok (.string ⟨[byteOf n].toArray⟩) (w.alloc (.cells #[.int .u8 n] 5)):=by
 rw[run_convert_bytes_string _ _ _ 5 _ _ _ Tryz.underlying179 Tryz.underlying5 Tryz.underlying9]
 have b:=run_loadCells_list (P:=Tryz.prog) (w.alloc (.cells #[.int .u8 n] 5)) ⟨w.heap.size,0,none⟩ ([n].map (Value.int .u8)) (fun j v a=>by
  cases j with
  | zero=>simp at a;subst a;simp[Addr.add]
  | succ j=>simp at a)
 simp only[List.map_cons,List.map_nil,List.length_cons,List.length_nil,Nat.zero_add]at b;have:=run_bytesToString (P:=Tryz.prog) _ ⟨w.heap.size,0,none⟩ 1 1 [n] b;rw[this];rfl
theorem Qo (m:Int)(n:Nat)(h:m=n):byteOf (48+m % 10)=dn.oW n:=by
 subst h;unfold dn.oW byteOf;congr 1
theorem yg (m:Int)(n:Nat)(h:m=n)(a:n<=9):byteOf (48+m)=dn.oW n:=by
 subst h;unfold dn.oW byteOf;congr 1;omega
theorem di {p:Prop}(h:p):Hid p:=h
def dO (x:List UInt8):Value:=.string ⟨x.toArray⟩
def gL (e:Ending):Prop:=∃b:Bool,e=.returned (.bool b)
theorem Tryz.oC:(Tryz.prog.info? 9).map (fun i=>(i.zero,i.size,i.bytes))=some (some (.string ⟨#[]⟩),1,16):=bL
theorem fJ:(∀(l:List UInt8) (i:Nat) (h:i<(ByteArray.mk l.toArray).size),(ByteArray.mk l.toArray)[i]'h=l[i]'(by simpa[ByteArray.size] using h))/\
 (∀(l:List UInt8) (i j:Nat),(ByteArray.mk l.toArray).extract i j=⟨((l.take j).drop i).toArray⟩)/\
 (∀l:List UInt8,(ByteArray.mk l.toArray).toList=l)/\
 (∀x y:List UInt8,(ByteArray.mk x.toArray++ByteArray.mk y.toArray)=ByteArray.mk (x++y).toArray):=⟨ab2,Qq,TC,ab3⟩
def Row (w:World)(sz:Nat)(v:Value)(xs:List (List Value)):Prop:=
 ∃ao cap,v=.slice ao xs.length cap/\xs.length<=cap/\cap<=maxLen/\(∀x∈xs,x.length=sz)/\
  (∀i (hi:i<xs.length),∃g,ao=some ⟨g,0,none⟩/\∀j (hj:j<sz) u,xs[i][j]?=some u->w.cell? ⟨g,i*sz+j,none⟩=some u)
theorem Row.nil (w:World)(a:Nat):Row w a (.slice none 0 0) []:=⟨none,0,rfl,aP,aX,aP,by intro i hi;simp at hi⟩
theorem Row.below {a:List (List Value)}(h:Row w n v a)(b:Below w.heap.size w W):Row W n v a:=by
 obtain⟨c,d,e,f,g,i,j⟩:=h;refine⟨c,d,e,f,g,i,fun k hi=>?_⟩;obtain⟨l,m,o⟩:=j k hi;refine⟨l,m,fun p q u r=>?_⟩;have:=o p q u r;rw[b.cell (ai this)];exact this
theorem sO {b:Type}{a:List (List b)}(h:∀x∈a,x.length=n):a.flatten.length=a.length*n:=by
 induction a with
 | nil=>simp
 | cons x a c=>
  rw[List.flatten_cons,List.length_append,h x List.mem_cons_self,c (fun y d=>h y (List.mem_cons_of_mem _ d)),List.length_cons,Nat.succ_mul];exact aO
theorem xU {c:Type}{a:List (List c)}(h:∀x∈a,x.length=n)(i j:Nat)(hi:i<a.length)(f:j<n):a.flatten[i*n+j]?=a[i][j]?:=by
 induction a generalizing i with
 | nil=>simp at hi
 | cons x a d=>
  have b:=h x List.mem_cons_self;rw[List.flatten_cons];cases i with
  | zero=>simp only[Nat.zero_mul,Nat.zero_add,List.getElem_cons_zero];rw[List.getElem?_append_left aO]
  | succ i=>
   rw[List.getElem?_append_right (by rw[b,Nat.succ_mul];omega),b,Nat.succ_mul];rw[show i*n+n+j-n=i*n+j by omega];simp only[List.getElem_cons_succ];exact d (fun y e=>h y (List.mem_cons_of_mem _ e)) i ahT
theorem Row.dW {base:Nat}{e:TypeId}{n:Nat}{xs:List (List Value)}(h:w.ownsRow base e m v n xs.flatten)(b:n=xs.length)
 (c:∀x∈xs,x.length=m):Row w m v xs:=by
 subst b;obtain⟨s,d⟩:=h;rcases d with ⟨rfl,f⟩|⟨g,k,l,rfl,t,o,b,p,u,q⟩
 ·have:xs=[]:=List.length_eq_zero_iff.1 f;subst this;exact Row.nil w m
 ·refine⟨some ⟨g,0,none⟩,k,rfl,b,p,c,fun i hi=>⟨g,rfl,fun j r y a=>?_⟩⟩;rw[cell_of_row w g (i*m+j) l e (0,0) o];rw[<-xU c i j hi r,<-q,List.getElem?_take]at a;split at a
  ·exact aiW
  ·cases a
structure Lit where
 neg:Bool
 kind:Nat
 a:Nat
 b:Nat
def Lit.cells (l:Lit):List Value:=[.bool l.neg,.int .u8 l.kind,.int .i64 l.a,.int .i64 l.b]
def Lit.small (l:Lit):Prop:=l.kind<256/\l.a<1000/\l.b<1000
def fA (v:Value)(n:Nat)(P:Nat->Nat->Prop):Prop:=
 ∃ao cap,v=.slice ao n cap/\n<=cap/\cap<=maxLen/\∀i,i<n->∃g,ao=some ⟨g,0,none⟩/\P g i
theorem fA.imp {P Q:Nat->Nat->Prop}(h:fA v n P)(a:∀g i,i<n->P g i->Q g i):fA v n Q:=by
 obtain⟨b,c,d,e,f,j⟩:=h;exact⟨b,c,d,e,f,fun i hi=>by obtain⟨g,k,l⟩:=j i hi;exact⟨g,k,a g i hi l⟩⟩
theorem fA.imp' {P Q:Nat->Nat->Prop}(h:fA v n P)(a:n=m)(b:∀g i,i<n->P g i->Q g i):fA v m Q:=by
 subst a;exact h.imp b
theorem Row.sl {a:List (List Value)}(h:Row w n v a) :
 fA v a.length (fun g i=>∀(hi:i<a.length) j (_:j<n) u,a[i][j]?=some u->w.cell? ⟨g,i*n+j,none⟩=some u):=by
 obtain⟨b,c,d,e,f,o,k⟩:=h;exact⟨b,c,d,e,f,fun i hi=>by obtain⟨g,l,m⟩:=k i hi;exact⟨g,l,fun _=>m⟩⟩
structure eG (w:World)(b o:Nat)(l:Lit):Prop where
 neg:w.cell? ⟨b,o,none⟩=some (.bool l.neg)
 kind:w.cell? ⟨b,o+1,none⟩=some (.int .u8 l.kind)
 a:w.cell? ⟨b,o+2,none⟩=some (.int .i64 l.a)
 b:w.cell? ⟨b,o+3,none⟩=some (.int .i64 l.b)
theorem eG.below {o:Nat}{l:Lit}(h:eG w n o l){B:Nat}(a:Below B w W)(b:n<B):eG W n o l:=
 ⟨(a.cell (p:=⟨n,o,none⟩) b).trans h.neg,(a.cell (p:=⟨n,o+1,none⟩) b).trans h.kind,(a.cell (p:=⟨n,o+2,none⟩) b).trans h.a,(a.cell (p:=⟨n,o+3,none⟩) b).trans h.b⟩
def eP (w:World)(v:Value)(ls:List Lit):Prop:=fA v ls.length (fun g i=>∀h:i<ls.length,eG w g (i*4) ls[i])
variable {J:List Lit}
theorem eP.below (h:eP w v J)(b:Below w.heap.size w W):eP W v J:=
 fA.imp h fun _ _ _ a hi=>(a hi).below b (ai (a hi).neg)
theorem eP.tF (h:Row w 4 v (J.map Lit.cells)):eP w v J:=by
 refine fA.imp' h.sl aP fun g i hi b e=>?_;have a:=fun j c u d=>b ahT j c u d;simp only[List.getElem_map]at a;exact⟨a 0 aO _ rfl,a 1 aO _ rfl,a 2 aO _ rfl,a 3 aO _ rfl⟩
def dY (w:World)(v:Value)(xs:List Nat):Prop:=fA v xs.length (fun g i=>∀h:i<xs.length,w.cell? ⟨g,i,none⟩=some (.int .i64 xs[i]))
theorem dY.below (h:dY w v l)(b:Below w.heap.size w W):dY W v l:=
 fA.imp h fun g i _ a hi=>(b.cell (p:=⟨g,i,none⟩) (ai (a hi))).trans (a hi)
theorem ownsRow_below {size:Nat}(h:w.ownsRow n e size v m b)(a:Below w.heap.size w W):W.ownsRow n e size v m b:=
 h.kept (row:=none) ⟨a.os,a.tape,a.output,a.size,fun k c _=>a.block k c⟩ (by cases d:v.ownBlock<;>simp)
theorem vw {w:World}{base:Nat}{e:TypeId}{sz:Nat}{v:Value}{n:Nat}{xs:List (List Value)}(h:w.ownsRow base e sz v n xs.flatten)(c:n=xs.length)(d:∀x∈xs,x.length=sz) :
 fA v n (fun g i=>base<=g/\∀(hi:i<xs.length) j (_:j<sz) u,xs[i][j]?=some u->w.cell? ⟨g,i*sz+j,none⟩=some u):=by
 subst c;have f:=(Row.dW h rfl d).sl;obtain⟨k,l,a,m,o,p⟩:=f;refine⟨k,l,a,m,o,fun i hi=>?_⟩;obtain⟨g,b,q⟩:=p i hi;refine⟨g,b,(h.lt g (by rw[a,b];rfl)).1,q⟩
theorem tC (l:List UInt8)(w:World)(_hl:l.length<=1000000000000) :
 Calls Tryz.prog 217 #[.string ⟨l.toArray⟩] w fun e f=>e=.returned (.string ⟨(dn.plain l).toArray⟩)/\f=w:=by
 have i:=fJ;go_enter Tryz.func217,Tryz.ntmps217
 go_wp2
 go_loop [0] (fun t=>∃u:List UInt8,t=.string ⟨u.toArray⟩/\dn.plain u=dn.plain l/\u.length<=l.length) (fun t=>Jn t)
 case atStart=>exact⟨l,rfl,rfl,ae⟩
 case round=>
  obtain⟨u,rfl,d,g⟩:=hrel;have b:Hid (dn.plain u=dn.plain l):=d;clear d;cases u with
  | nil=>
   go_wp2
   go_ret;rw[<-b.o];exact⟨rfl,rfl⟩
  | cons c u=>
   by_cases a:c=48
   ·subst a
    go_wp2
    go_round
    case rel=>exact⟨u,rfl,b.o,by simp at g;omega⟩
    case measure=>rw[Gy,Gy];simp
   ·have j:((c.toNat:Int)==48)=false:=by
     rw[beq_eq_false_iff_ne];intro e;exact a (dn.jM (show c.toNat=48 by omega))
    have h:Hid (dn.plain (c::u)=c::u):=by show dn.plain (c::u)=c::u;simp[dn.plain,a]
    clear a
    go_wp2
    go_ret;exact⟨iB (by rw[<-b.o,h.o]),rfl⟩
theorem ET (a:List UInt8)(k:Nat)(w:World)(c:dn.Dg a)(_hl:a.length<=1000000000000)(_hk:k<=2000000000000) :
 Calls Tryz.prog 244 #[.string ⟨a.toArray⟩,.int .i64 k] w fun e d=>e=.returned (.int .i64 (dn.at_ a k))/\d=w:=by
 have f:=fJ
 by_cases h:k<a.length
 ·have g:=c (a[a.length-1-k]' aO) aP
  have b:Hid (dn.at_ a k=a[a.length-1-k].toNat-48):=by
   show _=_;simp only[dn.at_,h,if_true,dn.dv,List.getD_eq_getElem?_getD];rw[aD aO];rfl
  go_enter Tryz.func244,Tryz.ntmps244
  go_wp2
  go_ret;exact⟨fB (by rw[b.o];omega),rfl⟩
 ·have b:Hid (dn.at_ a k=0):=by show _=_;simp[dn.at_,h]
  go_enter Tryz.func244,Tryz.ntmps244
  go_wp2
  go_ret;exact⟨fB ai8,rfl⟩
theorem Ka (a b:Nat)(w:World)(_hla:(dn.D a).length<=1000000000000)(_hlb:(dn.D b).length<=1000000000000) :
 Calls Tryz.prog 219 #[.string ⟨(dn.D a).toArray⟩,.string ⟨(dn.D b).toArray⟩] w fun e f=>e=.returned (.bool (decide (a<b)))/\f=w:=by
 have i:=fJ;have c:Hid _:=dn.aaK a b;generalize dn.D a=x at *;generalize dn.D b=y at *
 by_cases h:x.length=y.length
 ·have g:(((x.length:Int)) !=(y.length:Int))=false:=by simp[h]
  have d:Hid (Op.bytesLess x y=decide (a<b)):=by
   have:=c.o;rw[if_neg aO]at this;exact this
  clear h c;go_enter Tryz.func219,Tryz.ntmps219
  go_wp2
  go_ret;exact⟨dK d.o,rfl⟩
 ·have g:(((x.length:Int)) !=(y.length:Int))=true:=ajj
  have d:Hid (decide (x.length<y.length)=decide (a<b)):=by
   have:=c.o;rw[if_pos h]at this;exact this
  clear h c;go_enter Tryz.func219,Tryz.ntmps219
  go_wp2
  go_ret;exact⟨dK d.o,rfl⟩
theorem kW (z:Int)(w:World)(_hl:(dn.dec z).length<=1000000000000) :
 Calls Tryz.prog 215 #[.string ⟨(dn.dec z).toArray⟩] w fun e a=>e=.returned (.tuple #[.bool (decide (z<0)),.string ⟨(dn.D z.natAbs).toArray⟩])/\Below w.heap.size w a:=by
 have g:=fJ
 by_cases h:z<0
 ·rw[dn.vG h]at *;rw[decide_eq_true h];generalize dn.D z.natAbs=x at *;clear h;go_enter Tryz.func215,Tryz.ntmps215;go_wp2_with fail;go_region
  all_goals
   go_wp2_with fail;go_ret2;exact⟨rfl,af.drew⟩
 ·rw[decide_eq_false h];have b:=(dn.EP (z:=z) aO).1;have d:=dn.ve z;have f:¬(dn.dec z).head?=some 45:=fun e=>h ((dn.zY z).1 e);rw[<-b];clear b;generalize dn.dec z=x at *;cases x with
  | nil=>exact absurd rfl d
  | cons c x=>
   have i:((c.toNat:Int)==45)=false:=by
    rw[beq_eq_false_iff_ne];intro e;exact f ajp
   clear f d;go_enter Tryz.func215,Tryz.ntmps215;go_wp2_with fail;refine(tC _ _ (by assumption)).mono ?_;rintro e a ⟨rfl,rfl⟩;go_wp2_with fail;go_ret2;exact⟨rfl,af⟩
theorem mV (neg:Bool)(d:List UInt8)(w:World)(f:dn.Dg d)(_hl:d.length<=1000000000000) :
 Calls Tryz.prog 216 #[.bool neg,.string ⟨d.toArray⟩] w fun e b=>e=.returned (.string ⟨(dn.dec (if neg then -(dn.val d:Int) else dn.val d)).toArray⟩)/\b=w:=by
 have h:=fJ;have c:=dn.UJ f neg;generalize dn.dec (if neg then -(dn.val d:Int) else dn.val d)=r at *;have g:=dn.A9 d;go_enter Tryz.func216,Tryz.ntmps216;have a:Hid _:=c;clear c;go_wp2_with fail;refine(tC _ _ (by assumption)).mono ?_;rintro e b ⟨rfl,rfl⟩;generalize dn.plain d=y at *;cases y with
 | nil=>
  go_wp2_with fail;go_ret;exact⟨iB (by rw[<-a.o];rfl),rfl⟩
 | cons i y=>
  have j:1+(y.length+1)<=9223372036854775807:=by simp at g;omega
  cases neg
  ·go_wp2_with fail;go_ret;exact⟨iB (by rw[<-a.o];simp),rfl⟩
  ·go_wp2_with fail;go_ret;exact⟨iB (by rw[<-a.o];simp),rfl⟩
theorem IE (z:Int):(if (!decide (z<0))=true then -((z.natAbs:Nat):Int) else(z.natAbs:Int))=-z:=by
 by_cases h:z<0
 ·simp[h];exact aO
 ·simp[h];exact aO
theorem NZ (z:Int)(w:World)(c:(dn.dec z).length<=1000000000000) :
 Calls Tryz.prog 154 #[.string ⟨(dn.dec z).toArray⟩] w fun e a=>e=.returned (.string ⟨(dn.dec (-z)).toArray⟩)/\Below w.heap.size w a:=by
 have h:=dn.gq z;have d:Hid _:=IE z;go_enter Tryz.func154,Tryz.ntmps154;go_wp2_with fail;refine(kW z _ c).mono ?_;rintro e i ⟨rfl,f⟩;generalize b:decide (z<0)=g at *;have j:Hid _:=b;clear b;go_wp2_with fail;refine(mV _ _ _ (dn.mP _) aO).mono ?_;rintro e a ⟨rfl,rfl⟩;rw[dn.kT];generalize (if (!g)=true then -((z.natAbs:Nat):Int) else(z.natAbs:Int))=y at *;go_wp2_with fail;go_ret;exact⟨iB (congrArg dn.dec d.o),f⟩
theorem NP (b c:List UInt8)(w:World)(f:dn.Dg b)(g:dn.Dg c)(q:b.length<=1000000000000)(r:c.length<=1000000000000) :
 Calls Tryz.prog 218 #[.string ⟨b.toArray⟩,.string ⟨c.toArray⟩] w fun h i=>(∃t:List UInt8,h=.returned (.string ⟨t.toArray⟩)/\dn.Dg t/\dn.val t=dn.val b+dn.val c/\t.length<=max b.length c.length+1)/\Below w.heap.size w i:=by
 have F:=fJ;go_enter Tryz.func218,Tryz.ntmps218;go_wp2_with fail
 go_loopw [5,6,7] (fun t s k wr=>∃(u:List UInt8) (d a:Nat),t=.string ⟨u.toArray⟩/\s=.int .i64 d/\k=.int .i64 a/\dn.Ci (dn.val b) (dn.val c) a d u/\(a<=max b.length c.length\/a=max b.length c.length+1/\d=0)/\Below w.heap.size w wr) (fun _ _ k _=>max b.length c.length+1-(intOf k).toNat)
 case atStart=>exact⟨[],0,0,rfl,rfl,rfl,dn.TJ _ _,aO,af⟩
 case round=>
  obtain⟨u,d,a,rfl,rfl,rfl,e,G,j⟩:=hrel;have H:=e.Ty;have I:=dn.I1 f a;have J:=dn.I1 g a;have l:=e.len;have K:u.length<=2000000000000:=aO;have m:Hid _:=l;clear l;have L:=IZ;have n:b.length<=a->dn.at_ b a=0:=fun v=>by unfold dn.at_;rw[if_neg aO]
  have o:c.length<=a->dn.at_ c a=0:=fun v=>by unfold dn.at_;rw[if_neg aO]
  have y:Hid _:=n;have z:Hid _:=o;clear n o;go_wp2_with fail
  all_goals first
   | (go_ret
      have A:d=0:=aO;subst A;have B:u.length<=max b.length c.length+1:=by rw[m.o];omega
      have p:∀x:List UInt8,dn.Dg x->x.length<=a->dn.val x<10 ^ a:=fun x C D=>Nat.lt_of_lt_of_le (dn.qC C) (Nat.pow_le_pow_right aO D);exact⟨⟨u,rfl,e.dg,dn.aah e (p b f aO) (p c g aO),B⟩,j⟩)
   | (refine(ET b a _ f q aO).mono ?_
      rintro h i ⟨rfl,rfl⟩;go_wp2_with fail;refine(ET c a _ g r aO).mono ?_;rintro h i ⟨rfl,rfl⟩;go_wp2_with fail;have E:=Qo ((d:Int)+(dn.at_ b a:Int)+(dn.at_ c a:Int)) (d+dn.at_ b a+dn.at_ c a) aO;go_roundw
      case rel=>
       have M:=y.o;have N:=z.o;have O:=m.o;refine⟨dn.oW (d+dn.at_ b a+dn.at_ c a)::u,(d+dn.at_ b a+dn.at_ c a) / 10,a+1,?_,?_,bJ,dn.Xf e (dn.at_eq f a) (dn.at_eq g a),aO,?_⟩
       ·rw[E]
       ·go_num
       ·exact j.alloc j.size _
      case measure=>simp[intOf];omega)
theorem FE (x y:Nat)(w:World)(m:y<=x)(r:(dn.D x).length<=1000000000000) :
 Calls Tryz.prog 220 #[.string ⟨(dn.D x).toArray⟩,.string ⟨(dn.D y).toArray⟩] w fun h i=>(∃t:List UInt8,h=.returned (.string ⟨t.toArray⟩)/\dn.Dg t/\dn.val t=x-y/\t.length=(dn.D x).length)/\Below w.heap.size w i:=by
 have A:=fJ;have g:=dn.mP x;have j:=dn.mP y;have B:=dn.lh m;have n:Hid _:=dn.kT x;have s:Hid _:=dn.kT y;generalize dn.D x=b at *;generalize dn.D y=d at *;go_enter Tryz.func220,Tryz.ntmps220;go_wp2_with fail
 go_loopw [5,6,7] (fun t v k wr=>∃(u:List UInt8) (c a:Nat),t=.string ⟨u.toArray⟩/\v=.int .i64 c/\k=.int .i64 a/\dn.BJ x y a c u/\a<=b.length/\Below w.heap.size w wr) (fun _ _ k _=>b.length-(intOf k).toNat)
 case atStart=>exact⟨[],0,0,rfl,rfl,rfl,dn.Rw _ _,aO,af⟩
 case round=>
  obtain⟨u,c,a,rfl,rfl,rfl,e,C,f⟩:=hrel;have D:=e.Ty;have E:=dn.I1 g a;have F:=dn.I1 j a;have G:u.length<=2000000000000:=by rw[e.len];omega
  have H:=IZ;have o:Hid (dn.at_ b a=x / 10 ^ a % 10):=by have:=dn.at_eq g a;rw[n.o]at this;exact this
  have p:Hid (dn.at_ d a=y / 10 ^ a % 10):=by have:=dn.at_eq j a;rw[s.o]at this;exact this
  by_cases I:a<b.length
  ·go_wp2_with fail;refine(ET b a _ g r aO).mono ?_;rintro h i ⟨rfl,rfl⟩;go_wp2_with fail;refine(ET d a _ j aO aO).mono ?_;rintro h i ⟨rfl,rfl⟩
   by_cases J:(dn.at_ b a:Int)-(dn.at_ d a:Int)-(c:Int)<0
   ·go_wp2_with fail;have l:=yg ((dn.at_ b a:Int)-(dn.at_ d a:Int)-(c:Int)+10) (dn.at_ b a+10-dn.at_ d a-c) aO aO;go_roundw
    case rel=>
     refine⟨dn.oW (dn.at_ b a+10-dn.at_ d a-c)::u,1,a+1,?_,rfl,bJ,dn.Jl e o.o p.o aO aO aO,aO,?_⟩
     ·rw[l]
     ·exact f.alloc f.size _
    case measure=>exact akL
   ·go_wp2_with fail;have l:=yg ((dn.at_ b a:Int)-(dn.at_ d a:Int)-(c:Int)) (dn.at_ b a-dn.at_ d a-c) aO aO;go_roundw
    case rel=>
     refine⟨dn.oW (dn.at_ b a-dn.at_ d a-c)::u,0,a+1,?_,rfl,bJ,dn.Jl e o.o p.o aO aO aO,aO,?_⟩
     ·rw[l]
     ·exact f.alloc f.size _
    case measure=>exact akL
  ·go_wp2_with fail;go_ret;have q:a=b.length:=aO;have z:x<10 ^ a:=by rw[q,<-n.o];exact dn.qC g
   exact⟨⟨u,rfl,e.dg,dn.Zv e z m,by rw[e.len,q]⟩,f⟩
theorem sM (x y:Int)(w:World)(D:(dn.dec x).length<=900000000000)(E:(dn.dec y).length<=900000000000) :
 Calls Tryz.prog 157 #[.string ⟨(dn.dec x).toArray⟩,.string ⟨(dn.dec y).toArray⟩] w fun e z=>e=.returned (.string ⟨(dn.dec (x+y)).toArray⟩)/\Below w.heap.size w z:=by
 have F:=dn.gq x;have G:=dn.gq y;go_enter Tryz.func157,Tryz.ntmps157;go_wp2_with fail;refine(kW x _ aO).mono ?_;rintro e H ⟨rfl,a⟩;go_wp2_with fail;refine(kW y _ aO).mono ?_;rintro e I ⟨rfl,g⟩
 by_cases o:decide (x<0)=decide (y<0)
 ·rw[<-o];generalize h:decide (x<0)=m at *;have p:Hid _:=h;have q:Hid _:=o;clear h o;go_wp2_with fail;refine(NP _ _ _ (dn.mP _) (dn.mP _) aO aO).mono ?_;rintro e s ⟨⟨t,rfl,i,b,r⟩,j⟩;rw[dn.kT,dn.kT]at b;have k:Hid _:=b;clear b;exact alf
 ·have u:decide (y<0)=!decide (x<0):=by
   cases c:decide (x<0)<;>cases d:decide (y<0)<;>simp_all
  rw[u];have J:(decide (x<0)==!decide (x<0))=false:=by cases decide (x<0)<;>rfl
  generalize h:decide (x<0)=m at *;have p:Hid _:=h;have q:Hid _:=u;clear h u o;go_wp2_with fail;refine(Ka _ _ _ aO aO).mono ?_;rintro e s ⟨rfl,rfl⟩
  by_cases n:x.natAbs<y.natAbs
  ·rw[decide_eq_true n];have A:Hid _:=n;go_wp2_with fail;refine(FE _ _ _ (Nat.le_of_lt n) aO).mono ?_;rintro e s ⟨⟨t,rfl,i,b,r⟩,j⟩;have B:t.length<=1000000000000:=aO;have k:Hid _:=b;clear b r;go_wp2_with fail;refine(mV _ _ _ i aO).mono ?_;rintro e v ⟨rfl,rfl⟩
   have l:(if (!m)=true then -(dn.val t:Int) else(dn.val t:Int))=x+y:=by
    have c:=p.o;have d:=q.o;have f:=k.o;cases m
    ·simp at c d;simp[f];exact aO
    ·simp at c d;simp[f];exact aO
   rw[l];go_wp2_with fail;go_ret;exact⟨rfl,(a.trans (g.mono a.size)).trans (j.mono (Nat.le_trans a.size g.size))⟩
  ·rw[decide_eq_false n];have A:Hid _:=n;have C:y.natAbs<=x.natAbs:=aO;go_wp2_with fail;refine(FE _ _ _ C aO).mono ?_;rintro e s ⟨⟨t,rfl,i,b,r⟩,j⟩;have B:t.length<=1000000000000:=aO;have k:Hid _:=b;clear b r;exact alf
theorem C9 (z:Int):(dn.dec (-z)).length<=(dn.dec z).length+1:=by
 have a:=dn.mK (-z);have b:=dn.gq z;rw[Int.natAbs_neg]at a;exact aO
theorem Gd (x y:Int)(w:World)(d:(dn.dec x).length<=800000000000)(f:(dn.dec y).length<=800000000000) :
 Calls Tryz.prog 155 #[.string ⟨(dn.dec x).toArray⟩,.string ⟨(dn.dec y).toArray⟩] w fun e b=>e=.returned (.string ⟨(dn.dec (x-y)).toArray⟩)/\Below w.heap.size w b:=by
 have g:=C9 y;go_enter Tryz.func155,Tryz.ntmps155;go_wp2_with fail;refine(NZ y _ aO).mono ?_;rintro e h ⟨rfl,a⟩;go_wp2_with fail;refine(sM x (-y) _ aO aO).mono ?_;rintro e i ⟨rfl,c⟩;rw[<-Int.sub_eq_add_neg];go_wp2_with fail;go_ret;exact⟨rfl,a.trans (c.mono a.size)⟩
theorem Li (z:Int)(w:World)(_hl:(dn.dec z).length<=800000000000) :
 Calls Tryz.prog 210 #[.string ⟨(dn.dec z).toArray⟩] w fun e f=>e=.returned (.int .i64 z.sign)/\f=w:=by
 have i:=fJ;rcases Int.lt_trichotomy z 0 with h|h|h
 ·have a:Hid (z.sign=-1):=Int.sign_eq_neg_one_of_neg h;rw[dn.vG h];generalize dn.D z.natAbs=x;have g:((45::x:List UInt8)==[48])=false:=by cases x<;>rfl
  clear h;exact amL
 ·subst h;rw[dn.gH];go_enter Tryz.func210,Tryz.ntmps210;go_wp2_with fail;go_ret;exact⟨fB rfl,rfl⟩
 ·have a:Hid (z.sign=1):=Int.sign_eq_one_of_pos h;have b:=dn.ve z;have d:¬(dn.dec z).head?=some 45:=fun e=>by have:=(dn.zY z).1 e;omega
  have g:(dn.dec z==[48])=false:=by
   rw[beq_eq_false_iff_ne,<-dn.gH];intro e;have:=dn.NF e;exact aO
  generalize dn.dec z=x at *;clear h;cases x with
  | nil=>exact absurd rfl b
  | cons c x=>
   have j:((c.toNat:Int)==45)=false:=by
    rw[beq_eq_false_iff_ne];intro e;exact d ajp
   clear d b;exact amL
theorem xX (x y:Int):(dn.dec (x-y)).length<=max (dn.dec x).length (dn.dec y).length+2:=by
 have a:=dn.mK (x-y);have b:=dn.gq x;have c:=dn.gq y;have d:(dn.D (x-y).natAbs).length<=(dn.D (x.natAbs+y.natAbs)).length:=dn.lh aO;have e:=dn.Iq x.natAbs y.natAbs;exact aO
theorem sP (x y:Int):(dn.dec (x+y)).length<=max (dn.dec x).length (dn.dec y).length+2:=by
 have a:=dn.mK (x+y);have b:=dn.gq x;have c:=dn.gq y;have d:(dn.D (x+y).natAbs).length<=(dn.D (x.natAbs+y.natAbs)).length:=dn.lh aO;have e:=dn.Iq x.natAbs y.natAbs;exact aO
theorem M9 (x y:Int):(dn.dec (x*y)).length<=(dn.dec x).length+(dn.dec y).length+1:=by
 have a:=dn.mK (x*y);have b:=dn.gq x;have c:=dn.gq y;have d:=dn.xH x.natAbs y.natAbs;rw[Int.natAbs_mul]at a;exact aO
theorem Xo (x y:Int)(w:World)(d:(dn.dec x).length<=700000000000)(f:(dn.dec y).length<=700000000000) :
 Calls Tryz.prog 191 #[.string ⟨(dn.dec x).toArray⟩,.string ⟨(dn.dec y).toArray⟩] w fun e a=>e=.returned (.bool (decide (x<y)))/\Below w.heap.size w a:=by
 have g:=xX x y
 have b:Hid (decide ((x-y).sign<0)=decide (x<y)):=by
  show _=_;rw[decide_eq_decide,Int.sign_neg_iff];exact aO
 go_enter Tryz.func191,Tryz.ntmps191;go_wp2_with fail;refine(Gd x y _ aO aO).mono ?_;rintro e h ⟨rfl,c⟩;go_wp2_with fail;refine(Li (x-y) _ aO).mono ?_;rintro e i ⟨rfl,rfl⟩;generalize (x-y).sign=s at *;go_wp2_with fail;go_ret;exact⟨dK b.o,c⟩
theorem Al (a:List UInt8)(k:Nat)(h:k<a.length):dn.val (a.take (k+1))=10*dn.val (a.take k)+dn.dv a[k]:=by
 rw[List.take_succ_eq_append_getElem h,dn.lW]
theorem Rh (s:List UInt8):dn.val (s++[48])=10*dn.val s:=by rw[dn.lW];rfl
theorem Gn (a:dn.Dg x)(k b v:Nat)(h:v<=dn.val (x.take k)*b):(dn.D v).length<=k+(dn.D b).length:=by
 have c:=dn.xH (dn.val (x.take k)) b;have d:=dn.lh h;have e:(dn.D (dn.val (x.take k))).length<=(x.take k).length:=dn.lG (dn.qC (dn.Z7 a k));have f:(x.take k).length<=k:=aQ;exact aO
theorem Si (x y:Int)(m n:Bool)(a:decide (x<0)=m)(b:decide (y<0)=n) :
 (if (m !=n)=true then -((x.natAbs*y.natAbs:Nat):Int) else((x.natAbs*y.natAbs:Nat):Int))=x*y:=by
 have c:(x.natAbs:Int)=if x<0 then -x else x:=by split<;>omega
 have d:(y.natAbs:Int)=if y<0 then -y else y:=by split<;>omega
 rw[Int.natCast_mul,c,d];cases m<;>cases n<;>simp at a b<;>simp[a,b,Int.not_lt.2,Int.neg_mul,Int.mul_neg]
theorem N7 (x y:Int)(w:World)(Z:(dn.dec x).length<=400000000000)(hly:(dn.dec y).length<=400000000000) :
 Calls Tryz.prog 156 #[.string ⟨(dn.dec x).toArray⟩,.string ⟨(dn.dec y).toArray⟩] w fun e h=>e=.returned (.string ⟨(dn.dec (x*y)).toArray⟩)/\Below w.heap.size w h:=by
 have hR:=fJ;have hdx:=dn.gq x;have hdy:=dn.gq y;go_enter Tryz.func156,Tryz.ntmps156;go_wp2_with fail;refine(kW x _ aO).mono ?_;rintro e w1 ⟨rfl,b⟩;go_wp2_with fail;refine(kW y _ aO).mono ?_;rintro e w2 ⟨rfl,l⟩;have o:=dn.mP x.natAbs;have I:Hid _:=dn.kT x.natAbs;generalize dn.D x.natAbs=a at *;generalize p:decide (x<0)=m at *;generalize q:decide (y<0)=n at *;have J:Hid _:=p;have K:Hid _:=q;have L:=b.trans (l.mono b.size);clear p q b l;generalize r:y.natAbs=Y at *;have M:Hid _:=r;clear r;go_wp2_with fail
 go_loopw [9,10] (fun s i wr=>∃(u:List UInt8) (k:Nat),s=.string ⟨u.toArray⟩/\i=.int .i64 k/\dn.Dg u/\dn.val u=dn.val (a.take k)*Y/\u.length<=k+(dn.D Y).length+1/\k<=a.length/\Below w.heap.size w wr) (fun _ i _=>a.length-(intOf i).toNat)
 case atStart=>exact⟨[],0,rfl,rfl,dn.oZ,aP,aP,aO,L⟩
 case round=>
  obtain⟨u,k,rfl,rfl,t,z,hlu,hk,A⟩:=hrel;have B:Hid _:=z;clear z
  by_cases N:k<a.length
  ·have hdig:=o a[k] aP;have C:Hid _:=Al a k N;go_wp2_with fail
   go_loopw [9,12] (fun s i wr=>∃(v:List UInt8) (j:Nat),s=.string ⟨v.toArray⟩/\i=.int .i64 j/\dn.Dg v/\dn.val v=(10*dn.val (a.take k)+j)*Y/\v.length<=k+(dn.D Y).length+2/\j<=dn.dv a[k]/\Below w.heap.size w wr) (fun _ i _=>dn.dv a[k]-(intOf i).toNat)
   case atStart=>
    refine⟨u++[48],0,rfl,rfl,dn.xC t (dn.sF ⟨aR,aR⟩ dn.oZ),?_,aQ,aO,A⟩;rw[Rh,B.o,Nat.add_zero,Nat.mul_assoc]
   case round=>
    obtain⟨v,j,rfl,rfl,c,D,hlv,hj,d⟩:=hrel;have f:Hid _:=D;clear D;have E:dn.dv a[k]=a[k].toNat-48:=rfl
    by_cases hjd:j<a[k].toNat-48
    ·have O:Hid ((dn.plain v).length<=k+1+(dn.D Y).length):=by
      show _<=_;rw[dn.vQ c];refine Gn o (k+1) Y _ ?_;rw[f.o,C.o];exact Nat.mul_le_mul_right _ aO
     have hpl:=dn.A9 v;clear E;go_wp2_with fail;refine(tC v _ aO).mono ?_;rintro e h ⟨rfl,rfl⟩;go_wp2_with fail;refine(NP _ _ _ (dn.JC c) (dn.mP Y) aO aO).mono ?_;rintro e w3 ⟨⟨P,rfl,Q,F,hlt3⟩,R⟩;have S:Hid _:=F;clear F;go_wp2_with fail;go_roundw
     case rel=>
      have hp:=O.o;refine⟨P,j+1,rfl,bJ,Q,?_,aO,by unfold dn.dv;omega,d.trans (R.mono d.size)⟩;rw[S.o,dn.A8,f.o,dn.kT,<-Nat.add_assoc,Nat.add_mul (10*dn.val (a.take k)+j) 1 Y,Nat.one_mul]
     case measure=>simp[intOf,dn.dv];omega
    ·clear E;have G:j=dn.dv a[k]:=by unfold dn.dv at *;omega
     have T:Hid _:=G;clear G;go_wp2_with fail;go_roundw
     case rel=>
      refine⟨v,k+1,rfl,bJ,c,?_,aO,aO,d⟩;rw[f.o,C.o,T.o]
     case measure=>exact akL
  ·go_wp2_with fail;refine(mV _ _ _ t aO).mono ?_;rintro e w4 ⟨rfl,rfl⟩
   have U:∀g:Bool,g=(m !=n)->(if g=true then -(dn.val u:Int) else(dn.val u:Int))=x*y:=by
    intro g V;rw[V];have W:=J.o;have X:=K.o;have H:=B.o;rw[List.take_of_length_le aO,I.o]at H;rw[H,<-M.o];exact Si x y m n W X
   rw[U _ (by cases m<;>cases n<;>rfl)];go_wp2_with fail;go_ret;exact⟨rfl,A⟩
def valOf:Value->Nat|.string s=>dn.val s.data.toList|_=>0
theorem Cj (n:Nat):valOf (.string ⟨(dn.D n).toArray⟩)=n:=by simp[valOf,dn.kT]
theorem IK (a:List UInt8)(k:Nat)(h:k<a.length):List.drop k (List.take (k+1) a)=[a[k]]:=by
 rw[List.take_succ_eq_append_getElem h,List.drop_append];simp[Nat.min_eq_left (Nat.le_of_lt h)]
theorem JD (n:Nat)(c:UInt8)(h:48<=c.toNat/\c.toNat<=57):dn.plain (dn.D n++[c])=dn.D (10*n+dn.dv c):=by
 rw[dn.vQ (dn.xC (dn.mP n) (dn.sF h dn.oZ)),dn.lW,dn.kT]
theorem Tj {uH:Nat}(h:10*n+uH=m*i+k)(b:n<i)(c:uH<=9)(d:i<=k):m+1<=9:=by
 rcases Nat.lt_or_ge m 9 with a|a
 ·exact aO
 ·have:=Nat.mul_le_mul_right i a;exact aO
theorem ac8 {uH:Nat}(h:10*n+uH=m*i+k)(b:n<i)(c:uH<=9):m<=9:=by
 rcases Nat.lt_or_ge m 10 with a|a
 ·exact aO
 ·have:=Nat.mul_le_mul_right i a;exact aO
theorem NC (x y:Nat)(w:World)(o:0<y)(W:(dn.D x).length<=900000000000)(X:(dn.D y).length<=900000000000) :
 Calls Tryz.prog 242 #[.string ⟨(dn.D x).toArray⟩,.string ⟨(dn.D y).toArray⟩] w fun e f=>(∃q:List UInt8,e=.returned (.tuple #[.string ⟨q.toArray⟩,.string ⟨(dn.D (x % y)).toArray⟩])/\dn.Dg q/\dn.val q=x / y/\q.length<=(dn.D x).length)/\Below w.heap.size w f:=by
 have Y:=fJ;have G:=dn.mP x;have H:Hid _:=dn.kT x;generalize dn.D x=a at *;go_enter Tryz.func242,Tryz.ntmps242;go_wp2_with fail
 go_loopw [6,7,8] (fun q r j wr=>∃(u:List UInt8) (b k:Nat),q=.string ⟨u.toArray⟩/\r=.string ⟨(dn.D b).toArray⟩/\j=.int .i64 k/\dn.Dg u/\u.length=k/\dn.val (a.take k)=dn.val u*y+b/\b<y/\k<=a.length/\Below w.heap.size w wr) (fun _ _ j _=>a.length-(intOf j).toNat)
 case atStart=>exact⟨[],0,0,rfl,by rw[dn.iL],rfl,dn.oZ,rfl,aP,o,aO,af⟩
 case round=>
  obtain⟨u,b,k,rfl,rfl,rfl,p,s,v,g,Z,z⟩:=hrel;have A:Hid _:=v;have B:Hid _:=s;have ahb:u.length<=a.length:=aO;clear v s;have hrl:=dn.lh (Nat.le_of_lt g)
  by_cases C:k<a.length
  ·have D:=G a[k] aP;have I:=dn.zV D;have J:Hid _:=Al a k C;have hsl:=IK a k C;have K:(dn.D b++[a[k]]).length<=1000000000000:=aQ;have L:Hid _:=JD b a[k] D;go_wp2_with fail;refine(tC _ _ K).mono ?_;rintro e f ⟨rfl,rfl⟩;rw[L.o];go_wp2_with fail
   go_loopw [7,9] (fun r M wr=>∃(c d:Nat),r=.string ⟨(dn.D c).toArray⟩/\M=.int .i64 d/\10*b+dn.dv a[k]=d*y+c/\d<=9/\Below w.heap.size w wr) (fun r _ _=>valOf r)
   case atStart=>exact⟨_,0,rfl,rfl,aP,aO,z⟩
   case round=>
    obtain⟨c,d,rfl,rfl,l,N,h⟩:=hrel;have m:Hid _:=l;have O:c<=10*y:=by have:=l;omega
    have hcl:(dn.D c).length<=910000000000:=by
     have n:=dn.lh O;have h2:=dn.xH 10 y;have h3:(dn.D 10).length<=2:=dn.lG aO;exact aO
    clear l;go_wp2_with fail;refine(Ka _ _ _ aO aO).mono ?_;rintro e f ⟨rfl,rfl⟩
    by_cases i:c<y
    ·rw[decide_eq_true i];have hcv:=IZ;have hd:=yg (d:Int) d rfl N;go_wp2_with fail;go_roundw
     case rel=>
      refine⟨u++[dn.oW d],c,k+1,rfl,rfl,bJ,dn.xC p (dn.sF (dn.EM d) dn.oZ),?_,?_,i,aO,h.alloc h.size _⟩
      ·have:=B.o;exact aQ
      ·rw[J.o,A.o,dn.lW,dn.EK,Nat.mod_eq_of_lt aO,Nat.add_mul,Nat.mul_add,Nat.mul_assoc];have:=m.o;exact aO
     case measure=>exact akL
    ·rw[decide_eq_false i];go_wp2_with fail;refine(FE _ _ _ (Nat.le_of_not_lt i) aO).mono ?_;rintro e w3 ⟨⟨t,rfl,P,E,Q⟩,R⟩;have S:Hid (dn.plain t=dn.D (c-y)):=by have:=dn.vQ P;rw[E]at this;exact this
     have T:t.length<=1000000000000:=aO;clear E Q;go_wp2_with fail;refine(tC t _ T).mono ?_;rintro e f ⟨rfl,rfl⟩;rw[S.o];go_wp2_with fail;go_roundw
     case rel=>
      refine⟨c-y,d+1,rfl,bJ,?_,Tj m.o g I aO,h.trans (R.mono h.size)⟩;rw[m.o,Nat.add_mul];exact aO
     case measure=>rw[Cj,Cj];omega
  ·have F:Hid (x=dn.val u*y+b):=by
    have n:=A.o;rw[List.take_of_length_le aO,H.o]at n;exact n
   have U:Hid (x % y=b):=by show _=_;rw[F.o,Nat.mul_comm,Nat.mul_add_mod,Nat.mod_eq_of_lt g]
   have V:Hid (x / y=dn.val u):=by show _=_;rw[F.o,Nat.mul_comm,Nat.mul_add_div o,Nat.div_eq_of_lt g];rfl
   go_wp2_with fail;go_ret2;exact⟨⟨u,by rw[U.o];rfl,p,V.o.symm,by rw[B.o];omega⟩,z⟩
theorem Kj (n:Nat)(h:0<n):(dn.D n).isEmpty=false:=by
 cases e:dn.D n with
 | nil=>have:=dn.pY.1 e;omega
 | cons=>rfl
theorem aao (x y:Int)(w:World)(B:(dn.dec x).length<=800000000000)(C:(dn.dec y).length<=800000000000) :
 Calls Tryz.prog 209 #[.string ⟨(dn.dec x).toArray⟩,.string ⟨(dn.dec y).toArray⟩] w fun e l=>e=.returned (.string ⟨(dn.dec (Int.gcd x y)).toArray⟩)/\Below w.heap.size w l:=by
 have D:=fJ;have E:=dn.gq x;have F:=dn.gq y;go_enter Tryz.func209,Tryz.ntmps209;go_wp2_with fail;refine(kW x _ aO).mono ?_;rintro e G ⟨rfl,a⟩;go_wp2_with fail;refine(kW y _ aO).mono ?_;rintro e H ⟨rfl,f⟩;generalize decide (x<0)=I at *;generalize decide (y<0)=J at *;have m:=a.trans (f.mono a.size);clear a f;have n:Hid (Int.gcd x y=Nat.gcd x.natAbs y.natAbs):=rfl;generalize x.natAbs=o at *;generalize y.natAbs=r at *;go_wp2_with fail
 go_loopw [6,8] (fun s b wr=>∃p q:Nat,s=.string ⟨(dn.D p).toArray⟩/\b=.string ⟨(dn.D q).toArray⟩/\Nat.gcd p q=Int.gcd x y/\(dn.D p).length<=900000000000/\(dn.D q).length<=900000000000/\Below w.heap.size w wr) (fun _ b _=>valOf b)
 case atStart=>exact⟨o,r,rfl,rfl,n.o.symm,aO,aO,m⟩
 case round=>
  obtain⟨p,q,rfl,rfl,g,t,h,c⟩:=hrel;have i:Hid _:=g;clear g
  by_cases j:q=0
  ·subst j;have d:=i.o;rw[Nat.gcd_zero_right]at d;have u:Hid _:=d;clear d;rw[dn.iL];have v:Hid _:=dn.kT p;have z:=dn.mP p;go_wp2_with fail;refine(mV _ _ _ z aO).mono ?_;rintro e K ⟨rfl,rfl⟩;rw[v.o];go_wp2_with fail;go_ret;exact⟨iB (by rw[<-u.o]),c⟩
  ·have L:=Kj q aO;have M:=dn.lh (Nat.le_of_lt (Nat.mod_lt p (Nat.pos_of_ne_zero j)));have k:0<q:=aO;go_wp2_with fail;refine(NC p q _ k t h).mono ?_;rintro e N ⟨⟨O,rfl,_,_,_⟩,A⟩;go_wp2_with fail;go_roundw
   case rel=>
    refine⟨q,p % q,rfl,rfl,?_,h,aO,c.trans (A.mono c.size)⟩;rw[<-i.o,Nat.gcd_comm p q,Nat.gcd_rec q p];exact Nat.gcd_comm _ _
   case measure=>rw[Cj,Cj];exact Nat.mod_lt _ k
theorem WV (e:0<=z)(f:0<Z)(g:n=z.natAbs / Z.natAbs):-(-z / Z)=if z.natAbs % Z.natAbs=0 then(n:Int) else n+1:=by
 obtain⟨a,rfl⟩:=Int.eq_ofNat_of_zero_le e;obtain⟨b,rfl⟩:=Int.eq_ofNat_of_zero_le (Int.le_of_lt f);simp only[Int.natAbs_natCast]at *;have h:0<b:=aO;subst g;split
 ·rename_i i;have d:a=b*(a / b):=by have:=Nat.div_add_mod a b;omega
  have c:-(a:Int)=(b:Int)*(-((a / b:Nat):Int)):=by
   conv=>lhs;rw[d]
   rw[Int.natCast_mul,Int.mul_neg]
  rw[c,Int.mul_ediv_cancel_left _ aO];exact aO
 ·rename_i i;have d:=Nat.div_add_mod a b;have j:=Nat.mod_lt a h
  have c:-(a:Int)=(b:Int)*(-((a / b:Nat):Int)-1)+((b:Int)-((a % b:Nat):Int)):=by
   rw[Int.mul_sub,Int.mul_neg,Int.mul_one,<-Int.natCast_mul];exact aO
  rw[c,Int.mul_add_ediv_left _ _ aO,Int.ediv_eq_zero_of_lt aO aO];exact aO
theorem WW (f:z<0)(b:0<Z)(a:n=z.natAbs / Z.natAbs):-(-z / Z)=-(n:Int):=by
 obtain⟨c,d⟩:=Int.eq_ofNat_of_zero_le (a:=-z) aO;obtain⟨g,rfl⟩:=Int.eq_ofNat_of_zero_le (Int.le_of_lt b);have e:z.natAbs=c:=aO;rw[e]at a;rw[d,a];exact aP
theorem XW (x u:Int)(w:World)(i:0<u)(C:(dn.dec x).length<=800000000000)(D:(dn.dec u).length<=800000000000) :
 Calls Tryz.prog 211 #[.string ⟨(dn.dec x).toArray⟩,.string ⟨(dn.dec u).toArray⟩] w fun e t=>e=.returned (.string ⟨(dn.dec (-(-x / u))).toArray⟩)/\Below w.heap.size w t:=by
 have E:=fJ;have F:=dn.gq x;have G:=dn.gq u;go_enter Tryz.func211,Tryz.ntmps211;go_wp2_with fail;refine(kW x _ aO).mono ?_;rintro e H ⟨rfl,c⟩;go_wp2_with fail;refine(kW u _ aO).mono ?_;rintro e I ⟨rfl,j⟩;generalize k:decide (x<0)=v at *;generalize decide (u<0)=J at *;have l:Hid _:=k;have d:=c.trans (j.mono c.size);clear c j k;go_wp2_with fail;refine(NC _ _ _ aO aO aO).mono ?_;rintro e K ⟨⟨q,rfl,m,n,L⟩,o⟩;have p:Hid _:=n;have a:=d.trans (o.mono d.size);clear n d o;go_wp2_with fail;refine(mV _ _ _ m aO).mono ?_;rintro e M ⟨rfl,rfl⟩;cases v
 ·have f:0<=x:=by have:=l.o;simp at this;exact this
  have b:Hid _:=WV f i p.o;simp only[Bool.false_eq_true,if_false]
  by_cases g:x.natAbs % u.natAbs=0
  ·have h:Hid (-(-x / u)=(dn.val q:Int)):=by have:=b.o;rw[if_pos g]at this;exact this
   rw[g,dn.iL];go_wp2_with fail;go_ret;exact⟨iB (congrArg dn.dec h.o.symm),a⟩
  ·have h:Hid (-(-x / u)=(dn.val q:Int)+1):=by have:=b.o;rw[if_neg g]at this;exact this
   have N:=Kj (x.natAbs % u.natAbs) aO
   have y:(dn.dec (dn.val q:Int)).length<=900000000000:=by
    have z:=dn.mK (dn.val q:Int);have O:(dn.D (dn.val q)).length<=q.length:=dn.lG (dn.qC m);simp only[Int.natAbs_natCast]at z;exact aO
   have A:Hid _:=dn.kS;go_wp2_with fail;rw[<-A.o];refine(sM (dn.val q) 1 _ y (by rw[dn.kS];simp)).mono ?_;rintro e P ⟨rfl,B⟩;go_wp2_with fail;go_ret;exact⟨iB (congrArg dn.dec h.o.symm),a.trans (B.mono a.size)⟩
 ·have f:x<0:=by have:=l.o;simp at this;exact this
  have b:Hid _:=WW f i p.o;simp only[if_true];generalize dn.D (x.natAbs % u.natAbs)=r
  by_cases s:r.isEmpty=true
  ·go_wp2_with fail;go_ret;exact⟨iB (congrArg dn.dec b.o.symm),a⟩
  ·have Q:r.isEmpty=false:=by simpa using s
   clear s;go_wp2_with fail;go_ret;exact⟨iB (congrArg dn.dec b.o.symm),a⟩
def oN (c:UInt8):Bool:=48<=c&&c<=57
def nN (u:List UInt8):Bool:=u.all oN&&!u.isEmpty&&u.head? !=some 48
theorem ade:dn.Is [48]=true:=rfl
theorem ab9 (u:List UInt8):dn.Is (45::u)=nN u:=by
 unfold dn.Is nN oN;have:((45::u:List UInt8)==[48])=false:=by cases u<;>rfl
 rw[this];rfl
theorem Lm (h:(x==[48])=false)(a:¬x.head?=some 45):dn.Is x=nN x:=by
 unfold dn.Is nN oN;rw[h];simp only[if_neg a,Bool.false_or]
theorem Z5 {c:UInt8}(a:¬(c.toNat:Int)<48)(b:¬(57:Int)<(c.toNat:Int)):oN c=true:=by
 unfold oN;simp only[Bool.and_eq_true,decide_eq_true_eq,UInt8.le_iff_toNat_le];exact⟨by show 48<=c.toNat;omega,by show c.toNat<=57;omega⟩
theorem WK {c:UInt8}(h:(c.toNat:Int)<48\/(57:Int)<(c.toNat:Int)):oN c=false:=by
 unfold oN;rw[Bool.eq_false_iff];intro e;simp only[Bool.and_eq_true,decide_eq_true_eq,UInt8.le_iff_toNat_le]at e;have a:48<=c.toNat:=e.1;have b:c.toNat<=57:=e.2;exact aO
theorem IV (u:List UInt8)(k:Nat)(h:k<u.length):(u.take (k+1)).all oN=((u.take k).all oN&&oN u[k]):=by
 rw[List.take_succ_eq_append_getElem h,List.all_append];exact aP
theorem Kk (h:n<x.length)(a:oN x[n]=false):nN x=false:=by
 unfold nN
 have:x.all oN=false:=by
  rw[List.all_eq_false];exact⟨x[n],aP,by simp[a]⟩
 rw[this];rfl
theorem MV (h:¬0<x.length):nN x=false:=by
 have:x=[]:=List.length_eq_zero_iff.1 aO;subst this;rfl
theorem MW (h:0<x.length)(b:x.all oN=true):nN x=((x[0].toNat:Int) !=48):=by
 cases x with
 | nil=>simp at h
 | cons d v=>
  unfold nN;rw[b];simp only[List.isEmpty_cons,List.head?_cons,List.getElem_cons_zero,Bool.not_false,Bool.true_and]
  by_cases a:d=48
  ·subst a;rfl
  ·have c:(some d !=some (48:UInt8))=true:=by simp[a]
   have e:((d.toNat:Int) !=48)=true:=by
    rw[bne_iff_ne];intro f;exact a (dn.jM (show d.toNat=(48:UInt8).toNat from by show d.toNat=48;omega))
   rw[c,e]
theorem Lp (l:List UInt8)(w:World)(_hl:l.length<=1000000000000) :
 Calls Tryz.prog 214 #[.string ⟨l.toArray⟩] w fun e o=>e=.returned (.bool (dn.Is l))/\o=w:=by
 have y:=fJ
 by_cases b:(l==[48])=true
 ·have:=eq_of_beq b;subst this;rw[ade];go_enter Tryz.func214,Tryz.ntmps214;go_wp2_with fail;go_ret;exact⟨rfl,rfl⟩
 ·have b:(l==[48])=false:=ajh
  obtain⟨u,h,p,q⟩:∃u:List UInt8,dn.Is l=nN u/\u.length<=l.length/\(l=45::u\/(u=l/\¬0<u.length)\/(u=l/\∃z:0<u.length,((u[0].toNat:Int)==45)=false)):=by
   cases l with
   | nil=>exact⟨[],rfl,aP,.inr (.inl ⟨rfl,aP⟩)⟩
   | cons c u=>
    by_cases d:c=45
    ·subst d;exact⟨u,ab9 u,aP,.inl rfl⟩
    ·refine⟨c::u,Lm b (by simp[d]),ae,.inr (.inr ⟨rfl,aP,?_⟩)⟩;rw[beq_eq_false_iff_ne];intro e;exact d (dn.jM (show c.toNat=(45:UInt8).toNat from by simp at e;show c.toNat=45;omega))
  rw[h];clear h;have A:u.length<=1000000000000:=aO;go_enter Tryz.func214,Tryz.ntmps214;rcases q with rfl|⟨rfl,B⟩|⟨rfl,r,d⟩
  rotate_left
  ·have:u=[]:=List.length_eq_zero_iff.1 aO;subst this;go_wp2_with fail
   go_loop [3] (fun i=>i=.int .i64 0) (fun _=>0)
   case atStart=>rfl
   case round=>
    subst hrel;go_wp2_with fail;go_ret;exact⟨rfl,rfl⟩
  all_goals
   clear p _hl;go_wp2_with fail
   go_loop [3] (fun i=>∃k:Nat,i=.int .i64 k/\k<=u.length/\(u.take k).all oN=true) (fun i=>u.length-(intOf i).toNat)
   case atStart=>exact⟨0,rfl,aO,aP⟩
   case round=>
    obtain⟨k,rfl,C,j⟩:=hrel;have m:Hid _:=j;clear j
    by_cases n:k<u.length
    ·have s:Hid _:=IV u k n
     by_cases a:(u[k].toNat:Int)<48\/(57:Int)<(u[k].toNat:Int)
     ·have t:Hid _:=Kk n (WK a);rcases a with a|a
      all_goals
       go_wp2_with fail;go_ret;exact⟨dK t.o.symm,rfl⟩
     ·have D:(48:Int)<=(u[k].toNat:Int):=aO;have E:(u[k].toNat:Int)<=57:=aO;have v:Hid _:=Z5 (c:=u[k]) aO aO;clear a;go_wp2_with fail
      go_round
      case rel=>exact⟨k+1,bJ,aO,by rw[s.o,m.o,v.o];rfl⟩
      case measure=>exact akL
    ·have x:Hid (u.all oN=true):=by have:=m.o;rw[List.take_of_length_le aO]at this;exact this
     by_cases f:0<u.length
     ·have g:Hid _:=MW f x.o;go_wp2_with fail;go_ret;exact⟨dK g.o.symm,rfl⟩
     ·have g:Hid _:=MV f
      first|(exfalso;exact f r)|(go_wp2_with fail;go_ret;exact⟨dK g.o.symm,rfl⟩)
end Go.Proofs.YtbichedkajfmiaaGreatDoor
