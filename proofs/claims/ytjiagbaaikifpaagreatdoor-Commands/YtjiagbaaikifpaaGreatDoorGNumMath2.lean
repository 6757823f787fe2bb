import Derived.Test.YtjiagbaaikifpaaGreatDoorProg
import Derived.WalkKit
import Derived.WalkLawsBesides
import Derived.WalkSpells
import GoSem.Op.String
import Derived.Test.YtjiagbaaikifpaaGreatDoorGDoc0
import Derived.Test.YtjiagbaaikifpaaGreatDoorB
set_option maxRecDepth 100000
set_option maxHeartbeats 16000000
namespace dC
variable {Z z:Int}{i j k m n:Nat}{x:List UInt8}
structure EF (A B k c:Nat)(t:List UInt8):Prop where
 dg:Dg t
 len:t.length=k
 sum:A % 10 ^ k+B % 10 ^ k=val t+c*10 ^ k
 XJ:c<=1
theorem XY (A B:Nat):EF A B 0 0 []:=⟨rP,rfl,by simp[Nat.mod_one],aR⟩
theorem mod_succ (A k:Nat):A % 10 ^ (k+1)=A % 10 ^ k+10 ^ k*(A / 10 ^ k % 10):=by rw[Nat.mod_pow_succ]
theorem Gy (h:EF n m k i x){a y:Nat}(b:a=n / 10 ^ k % 10)(c:y=m / 10 ^ k % 10) :
 EF n m (k+1) ((i+a+y) / 10) (rO (i+a+y)::x):=by
 have g:=h.XJ;have j:=h.sum;have l:a<=9:=aR;have o:y<=9:=aR;refine⟨vD (Il _) h.dg,by simp[h.len],?_,aR⟩;rw[p8,Ij,h.len,mod_succ,mod_succ,<-b,<-c,Nat.pow_succ];generalize 10 ^ k=p at *;have e:(i+a+y)=10*((i+a+y) / 10)+(i+a+y) % 10:=aR;generalize (i+a+y) / 10=q at *;generalize (i+a+y) % 10=r at *;have d:(i+a+y)*p=(10*q+r)*p:=by rw[e]
 rw[Nat.add_mul,Nat.add_mul,Nat.add_mul]at d;have f:q*(p*10)=10*q*p:=by rw[Nat.mul_comm p 10,<-Nat.mul_assoc,Nat.mul_comm q 10]
 rw[f,Nat.mul_comm p a,Nat.mul_comm p y];exact aR
theorem adY (h:EF n m k 0 x)(a:n<10 ^ k)(b:m<10 ^ k):val x=n+m:=by
 have:=h.sum;rw[Nat.mod_eq_of_lt a,Nat.mod_eq_of_lt b]at this;exact aR
structure El (A B k c:Nat)(t:List UInt8):Prop where
 dg:Dg t
 len:t.length=k
 sum:A % 10 ^ k+c*10 ^ k=B % 10 ^ k+val t
 XJ:c<=1
theorem VN (A B:Nat):El A B 0 0 []:=⟨rP,rfl,by simp[Nat.mod_one],aR⟩
theorem BS {c:Nat}{t:List UInt8}(h:El n m k c t){x y:Nat}(a:x=n / 10 ^ k % 10)(b:y=m / 10 ^ k % 10)
 (d:x+10*j=y+c+i) (l:i<=9) (e:j<=1):El n m (k+1) j (rO i::t):=by
 have o:=h.sum;refine⟨vD (Il _) h.dg,by simp[h.len],?_,e⟩;rw[p8,Ij,h.len,mod_succ,mod_succ,<-a,<-b,Nat.pow_succ,Nat.mod_eq_of_lt (show i<10 by omega)];generalize 10 ^ k=p at *;have f:(x+10*j)*p=(y+c+i)*p:=by rw[d]
 rw[Nat.add_mul,Nat.add_mul,Nat.add_mul]at f;have g:j*(p*10)=10*j*p:=by rw[Nat.mul_comm p 10,<-Nat.mul_assoc,Nat.mul_comm j 10]
 rw[g,Nat.mul_comm p x,Nat.mul_comm p y];exact aR
theorem ac2 (h:El n m k i x)(b:n<10 ^ k)(e:m<=n):val x=n-m:=by
 have c:=h.sum;have d:=kQ h.dg;rw[h.len]at d;rw[Nat.mod_eq_of_lt b,Nat.mod_eq_of_lt (show m<10 ^ k by omega)]at c;have f:=h.XJ
 have:i=0:=by
  rcases Nat.eq_zero_or_pos i with a|a
  ·exact a
  ·have:i=1:=aR;subst this;exact aR
 subst this;exact aR
theorem LG {b:List UInt8}(d:Dg x)(e:Dg b)(f:x.length=b.length):Go.Op.bytesLess x b=decide (val x<val b):=by
 induction x generalizing b with
 | nil=>cases b with
  | nil=>simp[Go.Op.bytesLess]
  | cons y b=>simp at f
 | cons a x k=>cases b with
  | nil=>simp at f
  | cons y b=>
   have g:x.length=b.length:=ana;rw[Go.Op.bytesLess,k (yx d) (yx e) g,p8,p8,g];have l:=kQ (yx d);have q:=kQ (yx e);rw[g]at l;have r:=JJ d;have s:=JJ e
   have j:∀u v:Nat,u<v->u*10 ^ b.length+10 ^ b.length<=v*10 ^ b.length:=λu v h=>by
    rw[<-Nat.succ_mul];exact Nat.mul_le_mul_right _ h
   rcases Nat.lt_trichotomy a.toNat y.toNat with h|h|h
   ·have c:a<y:=UInt8.lt_iff_toNat_lt.2 h;have m:=j (dv a) (dv y) (by unfold dv;omega);simp[c];exact aR
   ·have c:a=y:=ll h;subst c;exact aW
   ·have c:¬a<y:=λi=>aP (UInt8.lt_iff_toNat_lt.1 i);have n:a≠y:=λi=>by rw[i]at h;omega
    have m:=j (dv y) (dv a) (by unfold dv;omega);have o:¬(dv a*10 ^ b.length+val x<dv y*10 ^ b.length+val b):=aR;have p:(a==y)=false:=by simpa using n
    rw[p,decide_eq_false o,decide_eq_false c];rfl
theorem aez (a b:Nat):(if (D a).length≠(D b).length then decide ((D a).length<(D b).length) else Go.Op.bytesLess (D a) (D b))=decide (a<b):=by
 split
 ·rename_i h
  by_cases c:(D a).length<(D b).length
  ·have g:=C9 a
   have e:0<b:=by
    rcases Nat.eq_zero_or_pos b with d|d
    ·subst d;rw[jL]at c;simp at c
    ·exact d
   have i:=akq e;have j:10 ^ (D a).length<=10 ^ ((D b).length-1):=Nat.pow_le_pow_right aR aR;simp[c];exact aR
  ·have:¬a<b:=λf=>aP (mR (Nat.le_of_lt f));simp[c];exact aR
 ·rename_i h;rw[LG (rC a) (rC b) aR,lQ,lQ]
def dec (z:Int):List UInt8:=if z<0 then 45::D z.natAbs else if z=0 then [48] else D z.toNat
theorem gV:dec 0=[48]:=by simp[dec]
theorem lD:dec 1=[49]:=by simp[dec,JZ];rfl
theorem rQ:dec (-1)=[45,49]:=by simp[dec,JZ];rfl
theorem vE (h:z<0):dec z=45::D z.natAbs:=by simp[dec,h]
theorem ET (h:0<z):dec z=D z.natAbs:=by
 rw[dec,if_neg aR,if_neg aR];congr 1;omega
theorem xW (z:Int):dec z≠[]:=by
 unfold dec;split
 ·exact aW
 ·split
  ·exact aW
  ·rw[Ne,Da];exact aR
theorem YM {c:UInt8}(h:D n=c::x):c≠45:=by
 have:=rC n c aom;intro e;subst e;have a:(45:UInt8).toNat=45:=rfl;exact aR
theorem vF (z:Int):(dec z).head?=some 45↔z<0:=by
 unfold dec;split
 ·simp;assumption
 ·split
  ·exact aX
  ·cases h:D z.toNat with
   | nil=>simp;omega
   | cons c l=>simp[YM h];omega
theorem pG (z:Int):(dec z).length<=(D z.natAbs).length+1:=by
 unfold dec;split
 ·exact aW
 ·split
  ·exact aW
  ·rw[show z.toNat=z.natAbs by omega];exact aR
theorem iC (z:Int):(D z.natAbs).length<=(dec z).length:=by
 unfold dec;split
 ·exact aW
 ·split
  ·rename_i h;subst h;simp[jL]
  ·rw[show z.toNat=z.natAbs by omega];exact aR
theorem Ip {z:Int}(h:0<=z):plain (dec z)=D z.natAbs/\Dg (dec z):=by
 unfold dec;rw[if_neg aR];split
 ·rename_i a;subst a;exact⟨by simp[plain,jL],vD ⟨aY,aY⟩ rP⟩
 ·rw[show z.toNat=z.natAbs by omega];exact⟨by rw[yH (rC _),lQ],rC _⟩
theorem YQ (h:Dg x)(neg:Bool) :
 (if plain x=[] then [48] else if neg then 45::plain x else plain x)=dec (if neg then -(val x:Int) else val x):=by
 rw[yH h]
 by_cases a:val x=0
 ·rw[a,jL];cases neg<;>simp[dec]
 ·have b:D (val x)≠[]:=λe=>a (Da.1 e);rw[if_neg b];cases neg
  ·simp only[Bool.false_eq_true,if_false];rw[ET aR];exact aW
  ·simp only[if_true];rw[vE aR];exact aW
theorem JK (h:dec z=dec Z):z=Z:=by
 have c:∀a:Int,a=if (dec a).head?=some 45 then -(val (dec a).tail:Int) else val (dec a):=by
  intro a;split
  ·rename_i b;have:=(vF a).1 b;rw[vE this];simp[lQ];exact aR
  ·rename_i b;have g:¬a<0:=λe=>b ((vF a).2 e);have d:=(Ip (z:=a) aR).1;have f:=DD (dec a);rw[d,lQ]at f;exact aR
 rw[c z,c Z,h]
def Is (t:List UInt8):Bool:=
 t==[48]||(let u:=if t.head?=some 45 then t.tail else t;u.all (λc=>48<=c&&c<=57)&&!u.isEmpty&&u.head? !=some 48)
theorem PX:x.all (λc=>48<=c&&c<=57)=true↔Dg x:=by
 rw[List.all_eq_true];constructor
 ·intro h c a;have:=h c a;exact aq2
 ·intro h c a;have:=h c a;simp only[Bool.and_eq_true,decide_eq_true_eq,UInt8.le_iff_toNat_le];exact this
theorem qD {t:List UInt8}(h:Is t=true):∃z:Int,t=dec z:=by
 unfold Is at h;simp only[Bool.or_eq_true,beq_iff_eq,Bool.and_eq_true]at h;rcases h with h|⟨⟨a,c⟩,d⟩
 ·exact⟨0,by rw[h,gV]⟩
 ·by_cases f:t.head?=some 45
  ·rw[if_pos f]at a c d;have a:=PX.1 a;cases t with
   | nil=>simp at f
   | cons i u=>
    simp only[List.head?_cons,Option.some.injEq]at f;subst f;simp only[List.tail_cons]at a c d;simp at c d;have e:=CB a (by simpa[BC] using d)
    have g:0<val u:=by
     rcases Nat.eq_zero_or_pos (val u) with b|b
     ·rw[b,jL]at e;simp[e]at c
     ·exact b
    refine⟨-(val u:Int),?_⟩;rw[vE aR];simp only[Int.natAbs_neg,Int.natAbs_natCast];rw[<-e]
  ·rw[if_neg f]at a c d;have a:=PX.1 a;have e:=CB a (by simpa[BC] using d)
   have g:0<val t:=by
    rcases Nat.eq_zero_or_pos (val t) with b|b
    ·rw[b,jL]at e;simp[e]at c
    ·exact b
   exact⟨(val t:Int),by rw[ET aR];simpa using e⟩
end dC
namespace Go.Proofs.YtjiagbaaikifpaaGreatDoor
open Go.RowKit Go.Proofs.Tryz
variable {W w:World}{Z z:Int}{b:List Value}{e:TypeId}{i k m n:Nat}{l:List Nat}{v:Value}{x:dN}
def Mo:Value->Nat|.string s=>s.size|_=>0
theorem Kb (l:dN):Mo (dD l)=l.length:=by simp[Mo,ByteArray.size]
theorem afP (l:dN)(i:Nat)(h:i<(ByteArray.mk l.toArray).size):(ByteArray.mk l.toArray)[i]'h=l[i]'(by simpa[ByteArray.size] using h):=rfl
theorem UA (l:dN)(i j:Nat):(ByteArray.mk l.toArray).extract i j=⟨((l.take j).drop i).toArray⟩:=by
 apply ByteArray.ext;simp[ByteArray.data_extract,List.extract_eq_take_drop,List.drop_take]
theorem XP (l:dN):(ByteArray.mk l.toArray).toList=l:=by
 rw[ByteArray.toList_eq]
theorem afQ (x y:dN):(ByteArray.mk x.toArray++ByteArray.mk y.toArray)=ByteArray.mk (x++y).toArray:=ByteArray.mk_append_mk x y
theorem ic {b:dN}(h:x=b):Ending.returned (dD x)=dF (dD b):=by rw[h]
theorem fM {k:IntKind}(h:z=Z):Ending.returned (.int k z)=dF (.int k Z):=by rw[h]
theorem dS {a b:Bool}(h:a=b):Ending.returned (.bool a)=dF (.bool b):=by rw[h]
def byteOf (n:Int):UInt8:=UInt8.ofNat n.toNat
theorem LU (w:World)(n:Int):(convert 180 9 (dJ w.heap.size 1 1)).run prog (w.alloc (.cells #[.int .u8 n] 5))=.ok (.string ⟨[byteOf n].toArray⟩) (w.alloc (.cells #[.int .u8 n] 5)):=by
 rw[run_convert_bytes_string _ _ _ 5 _ _ _ underlying180 underlying5 underlying9]
 have b:=run_loadCells_list (P:=prog) (w.alloc (.cells #[.int .u8 n] 5)) (dA w.heap.size 0) ([n].map (Value.int .u8)) (λj v a=>by
  cases j with
  | zero=>simp at a;subst a;simp[Addr.add]
  | succ j=>simp at a)
 simp only[List.map_cons,List.map_nil,List.length_cons,List.length_nil,Nat.zero_add]at b;have:=run_bytesToString (P:=prog) _ (dA w.heap.size 0) 1 1 [n] b;rw[this];rfl
theorem Uy (m:Int)(n:Nat)(h:m=n):byteOf (48+m % 10)=dC.rO n:=by
 subst h;unfold dC.rO byteOf;congr 1
theorem AA (m:Int)(n:Nat)(h:m=n)(a:n<=9):byteOf (48+m)=dC.rO n:=by
 subst h;unfold dC.rO byteOf;congr 1;omega
theorem dn {p:Prop}(h:p):Hid p:=h
def eO (x:dN):Value:=dD x
def iY (e:Ending):Prop:=∃b:Bool,e=dF (.bool b)
theorem ni:(prog.info? 9).map (λi=>(i.zero,i.size,i.bytes))=some (some (eB),1,16):=bR
theorem gU:(∀(l:dN) (i:Nat) (h:i<(ByteArray.mk l.toArray).size),(ByteArray.mk l.toArray)[i]'h=l[i]'(by simpa[ByteArray.size] using h))/\
 (∀(l:dN) (i j:Nat),(ByteArray.mk l.toArray).extract i j=⟨((l.take j).drop i).toArray⟩)/\
 (∀l:dN,(ByteArray.mk l.toArray).toList=l)/\
 (∀x y:dN,(ByteArray.mk x.toArray++ByteArray.mk y.toArray)=ByteArray.mk (x++y).toArray):=⟨afP,UA,XP,afQ⟩
def Row (w:World)(sz:Nat)(v:Value)(xs:List (List Value)):Prop:=
 ∃ao cap,v=.slice ao xs.length cap/\xs.length<=cap/\cap<=maxLen/\(∀x∈xs,x.length=sz)/\
  (∀i (hi:i<xs.length),∃g,ao=some (dA g 0)/\∀j (hj:j<sz) u,xs[i][j]?=some u->w.cell? (dA g (i*sz+j))=some u)
theorem Row.nil (w:World)(a:Nat):Row w a (dE) []:=⟨none,0,rfl,aW,bz,aW,by intro i hi;simp at hi⟩
theorem Row.below {a:List (List Value)}(h:Row w n v a)(b:dB w W):Row W n v a:=by
 obtain⟨c,d,e,f,g,i,j⟩:=h;refine⟨c,d,e,f,g,i,λk hi=>?_⟩;obtain⟨l,m,o⟩:=j k hi;refine⟨l,m,λp q u r=>?_⟩;have:=o p q u r;rw[b.cell (aj this)];exact this
theorem vW {b:Type}{a:List (List b)}(h:∀x∈a,x.length=n):a.flatten.length=a.length*n:=by
 induction a with
 | nil=>simp
 | cons x a c=>
  rw[List.flatten_cons,List.length_append,h x List.mem_cons_self,c (λy d=>h y (List.mem_cons_of_mem _ d)),List.length_cons,Nat.succ_mul];exact aR
theorem Aq {c:Type}{a:List (List c)}(h:∀x∈a,x.length=n)(i j:Nat)(hi:i<a.length)(f:j<n):a.flatten[i*n+j]?=a[i][j]?:=by
 induction a generalizing i with
 | nil=>simp at hi
 | cons x a d=>
  have b:=h x List.mem_cons_self;rw[List.flatten_cons];cases i with
  | zero=>simp only[Nat.zero_mul,Nat.zero_add,List.getElem_cons_zero];rw[List.getElem?_append_left aR]
  | succ i=>
   rw[List.getElem?_append_right (by rw[b,Nat.succ_mul];omega),b,Nat.succ_mul];rw[show i*n+n+j-n=i*n+j by omega];simp only[List.getElem_cons_succ];exact d (λy e=>h y (List.mem_cons_of_mem _ e)) i di
theorem Row.fq {base:Nat}{e:TypeId}{n:Nat}{xs:List (List Value)}(h:w.ownsRow base e m v n xs.flatten)(b:n=xs.length)
 (c:∀x∈xs,x.length=m):Row w m v xs:=by
 subst b;obtain⟨s,d⟩:=h;rcases d with ⟨rfl,f⟩|⟨g,k,l,rfl,t,o,b,p,u,q⟩
 ·have:xs=[]:=List.length_eq_zero_iff.1 f;subst this;exact Row.nil w m
 ·refine⟨some (dA g 0),k,rfl,b,p,c,λi hi=>⟨g,rfl,λj r y a=>?_⟩⟩;rw[cell_of_row w g (i*m+j) l e (0,0) o];rw[<-Aq c i j hi r,<-q,List.getElem?_take]at a;split at a
  ·exact amr
  ·cases a
structure Lit where
 neg:Bool
 kind:Nat
 a:Nat
 b:Nat
def Lit.cells (l:Lit):List Value:=[.bool l.neg,.int .u8 l.kind,dw l.a,dw l.b]
def Lit.small (l:Lit):Prop:=l.kind<256/\l.a<1000/\l.b<1000
def gu (v:Value)(n:Nat)(P:Nat->Nat->Prop):Prop:=
 ∃ao cap,v=.slice ao n cap/\n<=cap/\cap<=maxLen/\∀i,i<n->∃g,ao=some (dA g 0)/\P g i
theorem gu.imp {P Q:Nat->Nat->Prop}(h:gu v n P)(a:∀g i,i<n->P g i->Q g i):gu v n Q:=by
 obtain⟨b,c,d,e,f,j⟩:=h;exact⟨b,c,d,e,f,λi hi=>by obtain⟨g,k,l⟩:=j i hi;exact⟨g,k,a g i hi l⟩⟩
theorem gu.imp' {P Q:Nat->Nat->Prop}(h:gu v n P)(a:n=m)(b:∀g i,i<n->P g i->Q g i):gu v m Q:=by
 subst a;exact h.imp b
theorem Row.sl {a:List (List Value)}(h:Row w n v a) :
 gu v a.length (λg i=>∀(hi:i<a.length) j (_:j<n) u,a[i][j]?=some u->w.cell? (dA g (i*n+j))=some u):=by
 obtain⟨b,c,d,e,f,o,k⟩:=h;exact⟨b,c,d,e,f,λi hi=>by obtain⟨g,l,m⟩:=k i hi;exact⟨g,l,λ_=>m⟩⟩
structure fI (w:World)(b o:Nat)(l:Lit):Prop where
 neg:w.cell? (dA b o)=some (.bool l.neg)
 kind:w.cell? (dA b (o+1))=some (.int .u8 l.kind)
 a:w.cell? (dA b (o+2))=some (dw l.a)
 b:w.cell? (dA b (o+3))=some (dw l.b)
theorem fI.below {o:Nat}{l:Lit}(h:fI w n o l){B:Nat}(a:Below B w W)(b:n<B):fI W n o l:=
 ⟨(a.dL h.neg b),(a.dL h.kind b),(a.dL h.a b),(a.dL h.b b)⟩
def fK (w:World)(v:Value)(ls:List Lit):Prop:=gu v ls.length (λg i=>∀h:i<ls.length,fI w g (i*4) ls[i])
variable {J:List Lit}
theorem fK.below (h:fK w v J)(b:dB w W):fK W v J:=
 gu.imp h λ_ _ _ a hi=>(a hi).below b (aj (a hi).neg)
theorem fK.wH (h:Row w 4 v (J.map Lit.cells)):fK w v J:=by
 refine gu.imp' h.sl aW λg i hi b e=>?_;have a:=λj c u d=>b di j c u d;simp only[List.getElem_map]at a;exact⟨a 0 aR _ rfl,a 1 aR _ rfl,a 2 aR _ rfl,a 3 aR _ rfl⟩
def eX (w:World)(v:Value)(xs:List Nat):Prop:=gu v xs.length (λg i=>∀h:i<xs.length,w.cell? (dA g i)=some (dw xs[i]))
theorem eX.below (h:eX w v l)(a:dB w W):eX W v l:=
 gu.imp h λ_ _ _ b hi=>(a.eT (b hi))
theorem ownsRow_below {size:Nat}(h:w.ownsRow n e size v m b)(a:dB w W):W.ownsRow n e size v m b:=
 h.kept (row:=none) ⟨a.os,a.tape,a.output,a.size,λk c _=>a.block k c⟩ (by cases d:v.ownBlock<;>simp)
theorem yj {w:World}{base:Nat}{e:TypeId}{sz:Nat}{v:Value}{n:Nat}{xs:List (List Value)}(h:w.ownsRow base e sz v n xs.flatten)(c:n=xs.length)(d:∀x∈xs,x.length=sz) :
 gu v n (λg i=>base<=g/\∀(hi:i<xs.length) j (_:j<sz) u,xs[i][j]?=some u->w.cell? (dA g (i*sz+j))=some u):=by
 subst c;have f:=(Row.fq h rfl d).sl;obtain⟨k,l,a,m,o,p⟩:=f;refine⟨k,l,a,m,o,λi hi=>?_⟩;obtain⟨g,b,q⟩:=p i hi;refine⟨g,b,(h.lt g (by rw[a,b];rfl)).1,q⟩
theorem wG (l:dN)(w:World)(_hl:l.length<=1000000000000) :
 dH 230 #[dD l] w λe f=>e=dF (dD (dC.plain l))/\f=w:=by
 have i:=gU;go_enter func230,ntmps230;go_wp2
 go_loop [0] (fun t=>∃u:dN,t=dD u/\dC.plain u=dC.plain l/\u.length<=l.length) (fun t=>Mo t)
 ·exact⟨l,rfl,rfl,ae⟩
 case round=>
  obtain⟨u,rfl,d,g⟩:=hrel;have b:Hid (dC.plain u=dC.plain l):=d;clear d;cases u with
  | nil=>
   go_wp2;go_ret;rw[<-b.o];exact⟨rfl,rfl⟩
  | cons c u=>
   by_cases a:c=48
   ·subst a;go_wp2;go_round
    ·exact⟨u,rfl,b.o,by simp at g;omega⟩
    ·rw[Kb,Kb];exact aW
   ·have j:((c.toNat:Int)==48)=false:=by
     rw[beq_eq_false_iff_ne];intro e;exact a (dC.ll (show c.toNat=48 by omega))
    have h:Hid (dC.plain (c::u)=c::u):=by show dC.plain (c::u)=c::u;simp[dC.plain,a]
    clear a;go_wp2;go_ret;exact⟨ic (by rw[<-b.o,h.o]),rfl⟩
theorem Iy (a:dN)(k:Nat)(w:World)(c:dC.Dg a)(_hl:a.length<=1000000000000)(_hk:k<=2000000000000) :
 dH 269 #[dD a,dw k] w λe d=>e=dF (dw (dC.at_ a k))/\d=w:=by
 have f:=gU
 by_cases h:k<a.length
 ·have g:=c (a[a.length-1-k]' aR) aW
  have b:Hid (dC.at_ a k=a[a.length-1-k].toNat-48):=by
   show _=_;simp only[dC.at_,h,if_true,dC.dv,List.getD_eq_getElem?_getD];rw[aF aR];rfl
  go_enter func269,ntmps269;go_wp2;go_ret;exact⟨fM (by rw[b.o];omega),rfl⟩
 ·have b:Hid (dC.at_ a k=0):=by show _=_;simp[dC.at_,h]
  go_enter func269,ntmps269;go_wp2;go_ret;exact⟨fM anc,rfl⟩
theorem Nk (a b:Nat)(w:World)(_hla:(dC.D a).length<=1000000000000)(_hlb:(dC.D b).length<=1000000000000) :
 dH 232 #[dD (dC.D a),dD (dC.D b)] w λe f=>e=dF (.bool (decide (a<b)))/\f=w:=by
 have i:=gU;have c:Hid _:=dC.aez a b;generalize dC.D a=x at *;generalize dC.D b=y at *
 by_cases h:x.length=y.length
 ·have g:(((x.length:Int)) !=(y.length:Int))=false:=aoX
  have d:Hid (Op.bytesLess x y=decide (a<b)):=by
   have:=c.o;rw[if_neg aR]at this;exact this
  clear h c;go_enter func232,ntmps232;go_wp2;go_ret;exact⟨dS d.o,rfl⟩
 ·have g:(((x.length:Int)) !=(y.length:Int))=true:=amW
  have d:Hid (decide (x.length<y.length)=decide (a<b)):=by
   have:=c.o;rw[if_pos h]at this;exact this
  clear h c;go_enter func232,ntmps232;go_wp2;go_ret;exact⟨dS d.o,rfl⟩
theorem mK (z:Int)(w:World)(_hl:(dC.dec z).length<=1000000000000) :
 dH 228 #[dD (dC.dec z)] w λe a=>e=dF (dM #[.bool (decide (z<0)),dD (dC.D z.natAbs)])/\dB w a:=by
 have g:=gU
 by_cases h:z<0
 ·rw[dC.vE h]at *;rw[decide_eq_true h];generalize dC.D z.natAbs=x at *;clear h;go_enter func228,ntmps228;go_wp2_with fail;go_region
  all_goals
   go_wp2;go_ret2;exact⟨rfl,af.drew⟩
 ·rw[decide_eq_false h];have b:=(dC.Ip (z:=z) aR).1;have d:=dC.xW z;have f:¬(dC.dec z).head?=some 45:=λe=>h ((dC.vF z).1 e);rw[<-b];clear b;generalize dC.dec z=x at *;cases x with
  | nil=>exact absurd rfl d
  | cons c x=>
   have i:((c.toNat:Int)==45)=false:=by
    rw[beq_eq_false_iff_ne];intro e;exact f (by rw[dC.ll (show c.toNat=(45:UInt8).toNat from anV)];rfl)
   clear f d;go_enter func228,ntmps228;go_wp2_with fail;refine(wG _ _ (by assumption)).mono ?_;rintro e a ⟨rfl,rfl⟩;go_wp2;go_ret2;exact⟨rfl,af⟩
theorem pX (neg:Bool)(d:dN)(w:World)(f:dC.Dg d)(_hl:d.length<=1000000000000) :
 dH 229 #[.bool neg,dD d] w λe b=>e=dF (dD (dC.dec (if neg then -(dC.val d:Int) else dC.val d)))/\b=w:=by
 have h:=gU;have c:=dC.YQ f neg;generalize dC.dec (if neg then -(dC.val d:Int) else dC.val d)=r at *;have g:=dC.DF d;go_enter func229,ntmps229;have a:Hid _:=c;clear c;go_wp2_with fail;refine(wG _ _ (by assumption)).mono ?_;rintro e b ⟨rfl,rfl⟩;generalize dC.plain d=y at *;cases y with
 | nil=>
  go_wp2;go_ret;exact⟨ic (by rw[<-a.o];rfl),rfl⟩
 | cons i y=>
  have j:1+(y.length+1)<=9223372036854775807:=by simp at g;omega
  cases neg
  ·go_wp2;go_ret;exact⟨ic (by rw[<-a.o];simp),rfl⟩
  ·go_wp2;go_ret;exact⟨ic (by rw[<-a.o];simp),rfl⟩
theorem Lr (z:Int):(if (!decide (z<0))=true then -((z.natAbs:Nat):Int) else(z.natAbs:Int))=-z:=by
 by_cases h:z<0
 ·simp[h];exact aR
 ·simp[h];exact aR
theorem RA (z:Int)(w:World)(c:(dC.dec z).length<=1000000000000) :
 dH 159 #[dD (dC.dec z)] w λe a=>e=dF (dD (dC.dec (-z)))/\dB w a:=by
 have h:=dC.iC z;have d:Hid _:=Lr z;go_enter func159,ntmps159;go_wp2_with fail;refine(mK z _ c).dX λi f=>?_;generalize b:decide (z<0)=g at *;have j:Hid _:=b;clear b;go_wp2_with fail;refine(pX _ _ _ (dC.rC _) aR).mono ?_;rintro e a ⟨rfl,rfl⟩;rw[dC.lQ];generalize (if (!g)=true then -((z.natAbs:Nat):Int) else(z.natAbs:Int))=y at *;go_wp2;go_ret;exact⟨ic (congrArg dC.dec d.o),f⟩
theorem Rv (b c:dN)(w:World)(f:dC.Dg b)(g:dC.Dg c)(q:b.length<=1000000000000)(r:c.length<=1000000000000) :
 dH 231 #[dD b,dD c] w λh i=>(∃t:dN,h=dF (dD t)/\dC.Dg t/\dC.val t=dC.val b+dC.val c/\t.length<=max b.length c.length+1)/\dB w i:=by
 have F:=gU;go_enter func231,ntmps231;go_wp2_with fail
 go_loopw [5,6,7] (fun t s k wr=>∃(u:dN) (d a:Nat),t=dD u/\s=dw d/\k=dw a/\dC.EF (dC.val b) (dC.val c) a d u/\(a<=max b.length c.length\/a=max b.length c.length+1/\d=0)/\dB w wr) (fun _ _ k _=>max b.length c.length+1-(intOf k).toNat)
 ·exact⟨[],0,0,rfl,rfl,rfl,dC.XY _ _,aR,af⟩
 case round=>
  obtain⟨u,d,a,rfl,rfl,rfl,e,G,j⟩:=hrel;have H:=e.XJ;have I:=dC.LV f a;have J:=dC.LV g a;have l:=e.len;have K:u.length<=2000000000000:=aR;have m:Hid _:=l;clear l;have L:=LU;have n:b.length<=a->dC.at_ b a=0:=λv=>by unfold dC.at_;rw[if_neg aR]
  have o:c.length<=a->dC.at_ c a=0:=λv=>by unfold dC.at_;rw[if_neg aR]
  have y:Hid _:=n;have z:Hid _:=o;clear n o;go_wp2_with fail
  all_goals first
   | (go_ret
      have A:d=0:=aR;subst A;have B:u.length<=max b.length c.length+1:=by rw[m.o];omega
      have p:∀x:dN,dC.Dg x->x.length<=a->dC.val x<10 ^ a:=λx C D=>Nat.lt_of_lt_of_le (dC.kQ C) (Nat.pow_le_pow_right aR D);exact⟨⟨u,rfl,e.dg,dC.adY e (p b f aR) (p c g aR),B⟩,j⟩)
   | (refine(Iy b a _ f q aR).mono ?_
      rintro h i ⟨rfl,rfl⟩;go_wp2_with fail;refine(Iy c a _ g r aR).mono ?_;rintro h i ⟨rfl,rfl⟩;go_wp2_with fail;have E:=Uy ((d:Int)+(dC.at_ b a:Int)+(dC.at_ c a:Int)) (d+dC.at_ b a+dC.at_ c a) aR;go_roundw
      case rel=>
       have M:=y.o;have N:=z.o;have O:=m.o;refine⟨dC.rO (d+dC.at_ b a+dC.at_ c a)::u,(d+dC.at_ b a+dC.at_ c a) / 10,a+1,?_,?_,bL,dC.Gy e (dC.at_eq f a) (dC.at_eq g a),aR,?_⟩
       ·rw[E]
       ·go_num
       ·exact j.fO
      case measure=>simp[intOf];omega)
theorem Jk (x y:Nat)(w:World)(m:y<=x)(r:(dC.D x).length<=1000000000000) :
 dH 233 #[dD (dC.D x),dD (dC.D y)] w λg h=>(∃t:dN,g=dF (dD t)/\dC.Dg t/\dC.val t=x-y/\t.length=(dC.D x).length)/\dB w h:=by
 have A:=gU;have f:=dC.rC x;have i:=dC.rC y;have B:=dC.mR m;have n:Hid _:=dC.lQ x;have s:Hid _:=dC.lQ y;generalize dC.D x=b at *;generalize dC.D y=d at *;go_enter func233,ntmps233;go_wp2_with fail
 go_loopw [5,6,7] (fun t v k wr=>∃(u:dN) (c a:Nat),t=dD u/\v=dw c/\k=dw a/\dC.El x y a c u/\a<=b.length/\dB w wr) (fun _ _ k _=>b.length-(intOf k).toNat)
 ·exact⟨[],0,0,rfl,rfl,rfl,dC.VN _ _,aR,af⟩
 case round=>
  obtain⟨u,c,a,rfl,rfl,rfl,e,C,j⟩:=hrel;have D:=e.XJ;have E:=dC.LV f a;have F:=dC.LV i a;have G:u.length<=2000000000000:=by rw[e.len];omega
  have H:=LU;have o:Hid (dC.at_ b a=x / 10 ^ a % 10):=by have:=dC.at_eq f a;rw[n.o]at this;exact this
  have p:Hid (dC.at_ d a=y / 10 ^ a % 10):=by have:=dC.at_eq i a;rw[s.o]at this;exact this
  by_cases I:a<b.length
  ·go_wp2_with fail;refine(Iy b a _ f r aR).mono ?_;rintro g h ⟨rfl,rfl⟩;go_wp2_with fail;refine(Iy d a _ i aR aR).mono ?_;rintro g h ⟨rfl,rfl⟩
   by_cases J:(dC.at_ b a:Int)-(dC.at_ d a:Int)-(c:Int)<0
   ·go_wp2_with fail;have l:=AA ((dC.at_ b a:Int)-(dC.at_ d a:Int)-(c:Int)+10) (dC.at_ b a+10-dC.at_ d a-c) aR aR;go_roundw
    case rel=>
     refine⟨dC.rO (dC.at_ b a+10-dC.at_ d a-c)::u,1,a+1,?_,rfl,bL,dC.BS e o.o p.o aR aR aR,aR,?_⟩
     ·rw[l]
     ·exact j.fO
    case measure=>exact aph
   ·go_wp2_with fail;have l:=AA ((dC.at_ b a:Int)-(dC.at_ d a:Int)-(c:Int)) (dC.at_ b a-dC.at_ d a-c) aR aR;go_roundw
    case rel=>
     refine⟨dC.rO (dC.at_ b a-dC.at_ d a-c)::u,0,a+1,?_,rfl,bL,dC.BS e o.o p.o aR aR aR,aR,?_⟩
     ·rw[l]
     ·exact j.fO
    case measure=>exact aph
  ·go_wp2;go_ret;have q:a=b.length:=aR;have z:x<10 ^ a:=by rw[q,<-n.o];exact dC.kQ f
   exact⟨⟨u,rfl,e.dg,dC.ac2 e z m,by rw[e.len,q]⟩,j⟩
theorem vQ (x y:Int)(w:World)(D:(dC.dec x).length<=900000000000)(E:(dC.dec y).length<=900000000000) :
 dH 162 #[dD (dC.dec x),dD (dC.dec y)] w λe z=>e=dF (dD (dC.dec (x+y)))/\dB w z:=by
 have F:=dC.iC x;have G:=dC.iC y;go_enter func162,ntmps162;go_wp2_with fail;refine(mK x _ aR).dX λH f=>?_;go_wp2_with fail;refine(mK y _ aR).dX λI g=>?_
 by_cases o:decide (x<0)=decide (y<0)
 ·rw[<-o];generalize h:decide (x<0)=m at *;have p:Hid _:=h;have q:Hid _:=o;clear h o;go_wp2_with fail;refine(Rv _ _ _ (dC.rC _) (dC.rC _) aR aR).mono ?_;rintro e s ⟨⟨t,rfl,i,a,r⟩,j⟩;rw[dC.lQ,dC.lQ]at a;have k:Hid _:=a;clear a;exact apL
 ·have u:decide (y<0)=!decide (x<0):=by
   cases b:decide (x<0)<;>cases c:decide (y<0)<;>simp_all
  rw[u];have J:(decide (x<0)==!decide (x<0))=false:=by cases decide (x<0)<;>rfl
  generalize h:decide (x<0)=m at *;have p:Hid _:=h;have q:Hid _:=u;clear h u o;go_wp2_with fail;refine(Nk _ _ _ aR aR).mono ?_;rintro e s ⟨rfl,rfl⟩
  by_cases n:x.natAbs<y.natAbs
  ·rw[decide_eq_true n];have A:Hid _:=n;go_wp2_with fail;refine(Jk _ _ _ (Nat.le_of_lt n) aR).mono ?_;rintro e s ⟨⟨t,rfl,i,a,r⟩,j⟩;have B:t.length<=1000000000000:=aR;have k:Hid _:=a;clear a r;go_wp2_with fail;refine(pX _ _ _ i aR).mono ?_;rintro e v ⟨rfl,rfl⟩
   have l:(if (!m)=true then -(dC.val t:Int) else(dC.val t:Int))=x+y:=by
    have b:=p.o;have c:=q.o;have d:=k.o;cases m
    ·simp at b c;simp[d];exact aR
    ·simp at b c;simp[d];exact aR
   rw[l];go_wp2;go_ret;exact⟨rfl,(f.dW g).trans (j.mono (Nat.le_trans f.size g.size))⟩
  ·rw[decide_eq_false n];have A:Hid _:=n;have C:y.natAbs<=x.natAbs:=aR;go_wp2_with fail;refine(Jk _ _ _ C aR).mono ?_;rintro e s ⟨⟨t,rfl,i,a,r⟩,j⟩;have B:t.length<=1000000000000:=aR;have k:Hid _:=a;clear a r;exact apL
theorem rR (z:Int):(dC.dec (-z)).length<=(dC.dec z).length+1:=by
 have a:=dC.pG (-z);have b:=dC.iC z;rw[Int.natAbs_neg]at a;exact aR
theorem JR (x y:Int)(w:World)(d:(dC.dec x).length<=800000000000)(f:(dC.dec y).length<=800000000000) :
 dH 160 #[dD (dC.dec x),dD (dC.dec y)] w λe a=>e=dF (dD (dC.dec (x-y)))/\dB w a:=by
 have g:=rR y;go_enter func160,ntmps160;go_wp2_with fail;refine(RA y _ aR).dX λh b=>?_;go_wp2_with fail;refine(vQ x (-y) _ aR aR).dX λi c=>?_;rw[<-Int.sub_eq_add_neg];go_wp2;go_ret;exact⟨rfl,b.dW c⟩
theorem OP (z:Int)(w:World)(_hl:(dC.dec z).length<=800000000000) :
 dH 215 #[dD (dC.dec z)] w λe f=>e=dF (dw z.sign)/\f=w:=by
 have i:=gU;rcases Int.lt_trichotomy z 0 with h|h|h
 ·have a:Hid (z.sign=-1):=Int.sign_eq_neg_one_of_neg h;rw[dC.vE h];generalize dC.D z.natAbs=x;have g:((45::x:dN)==[48])=false:=by cases x<;>rfl
  clear h;go_enter func215,ntmps215;go_wp2;go_ret;exact⟨fM a.o.symm,rfl⟩
 ·subst h;rw[dC.gV];go_enter func215,ntmps215;go_wp2;go_ret;exact⟨fM rfl,rfl⟩
 ·have a:Hid (z.sign=1):=Int.sign_eq_one_of_pos h;have b:=dC.xW z;have d:¬(dC.dec z).head?=some 45:=λe=>aP ((dC.vF z).1 e)
  have g:(dC.dec z==[48])=false:=by
   rw[beq_eq_false_iff_ne,<-dC.gV];intro e;have:=dC.JK e;exact aR
  generalize dC.dec z=x at *;clear h;cases x with
  | nil=>exact absurd rfl b
  | cons c x=>
   have j:((c.toNat:Int)==45)=false:=by
    rw[beq_eq_false_iff_ne];intro e;exact d (by rw[dC.ll (show c.toNat=(45:UInt8).toNat from anV)];rfl)
   clear d b;go_enter func215,ntmps215;go_wp2;go_ret;exact⟨fM a.o.symm,rfl⟩
theorem vX (x y:Int):(dC.dec (x-y)).length<=max (dC.dec x).length (dC.dec y).length+2:=by
 have a:=dC.pG (x-y);have b:=dC.iC x;have c:=dC.iC y;have d:(dC.D (x-y).natAbs).length<=(dC.D (x.natAbs+y.natAbs)).length:=dC.mR aR;have e:=dC.Le x.natAbs y.natAbs;exact aR
theorem mX (x y:Int):(dC.dec (x+y)).length<=max (dC.dec x).length (dC.dec y).length+2:=by
 have a:=dC.pG (x+y);have b:=dC.iC x;have c:=dC.iC y;have d:(dC.D (x+y).natAbs).length<=(dC.D (x.natAbs+y.natAbs)).length:=dC.mR aR;have e:=dC.Le x.natAbs y.natAbs;exact aR
theorem Av (x y:Int):(dC.dec (x*y)).length<=(dC.dec x).length+(dC.dec y).length+1:=by
 have a:=dC.pG (x*y);have b:=dC.iC x;have c:=dC.iC y;have d:=dC.Af x.natAbs y.natAbs;rw[Int.natAbs_mul]at a;exact aR
theorem abv (x y:Int)(w:World)(d:(dC.dec x).length<=700000000000)(f:(dC.dec y).length<=700000000000) :
 dH 196 #[dD (dC.dec x),dD (dC.dec y)] w λe a=>e=dF (.bool (decide (x<y)))/\dB w a:=by
 have g:=vX x y
 have b:Hid (decide ((x-y).sign<0)=decide (x<y)):=by
  show _=_;rw[decide_eq_decide,Int.sign_neg_iff];exact aR
 go_enter func196,ntmps196;go_wp2_with fail;refine(JR x y _ aR aR).dX λh c=>?_;go_wp2_with fail;refine(OP (x-y) _ aR).mono ?_;rintro e i ⟨rfl,rfl⟩;generalize (x-y).sign=s at *;go_wp2;go_ret;exact⟨dS b.o,c⟩
theorem iQ (a:dN)(k:Nat)(h:k<a.length):dC.val (a.take (k+1))=10*dC.val (a.take k)+dC.dv a[k]:=by
 rw[List.take_succ_eq_append_getElem h,dC.jM]
theorem Vw (s:dN):dC.val (s++[48])=10*dC.val s:=by rw[dC.jM];rfl
theorem J2 (a:dC.Dg x)(k b v:Nat)(h:v<=dC.val (x.take k)*b):(dC.D v).length<=k+(dC.D b).length:=by
 have c:=dC.Af (dC.val (x.take k)) b;have d:=dC.mR h;have e:(dC.D (dC.val (x.take k))).length<=(x.take k).length:=dC.nD (dC.kQ (dC.adJ a k));have f:(x.take k).length<=k:=aX;exact aR
theorem WC (x y:Int)(m n:Bool)(a:decide (x<0)=m)(b:decide (y<0)=n) :
 (if (m !=n)=true then -((x.natAbs*y.natAbs:Nat):Int) else((x.natAbs*y.natAbs:Nat):Int))=x*y:=by
 have c:(x.natAbs:Int)=if x<0 then -x else x:=by split<;>omega
 have d:(y.natAbs:Int)=if y<0 then -y else y:=by split<;>omega
 rw[Int.natCast_mul,c,d];cases m<;>cases n<;>simp at a b<;>simp[a,b,Int.not_lt.2,Int.neg_mul,Int.mul_neg]
theorem RB (x y:Int)(w:World)(Z:(dC.dec x).length<=400000000000)(hly:(dC.dec y).length<=400000000000) :
 dH 161 #[dD (dC.dec x),dD (dC.dec y)] w λe f=>e=dF (dD (dC.dec (x*y)))/\dB w f:=by
 have hR:=gU;have hdx:=dC.iC x;have hdy:=dC.iC y;go_enter func161,ntmps161;go_wp2_with fail;refine(mK x _ aR).dX λw1 g=>?_;go_wp2_with fail;refine(mK y _ aR).dX λw2 h=>?_;have l:=dC.rC x.natAbs;have I:Hid _:=dC.lQ x.natAbs;generalize dC.D x.natAbs=a at *;generalize o:decide (x<0)=m at *;generalize p:decide (y<0)=n at *;have J:Hid _:=o;have K:Hid _:=p;have L:=g.dW h;clear o p g h;generalize q:y.natAbs=Y at *;have M:Hid _:=q;clear q;go_wp2_with fail
 go_loopw [9,10] (fun s i wr=>∃(u:dN) (k:Nat),s=dD u/\i=dw k/\dC.Dg u/\dC.val u=dC.val (a.take k)*Y/\u.length<=k+(dC.D Y).length+1/\k<=a.length/\dB w wr) (fun _ i _=>a.length-(intOf i).toNat)
 ·exact⟨[],0,rfl,rfl,dC.rP,aW,aW,aR,L⟩
 case round=>
  obtain⟨u,k,rfl,rfl,r,t,hlu,hk,z⟩:=hrel;have A:Hid _:=t;clear t
  by_cases N:k<a.length
  ·have hdig:=l a[k] aW;have B:Hid _:=iQ a k N;go_wp2_with fail
   go_loopw [9,12] (fun s i wr=>∃(v:dN) (j:Nat),s=dD v/\i=dw j/\dC.Dg v/\dC.val v=(10*dC.val (a.take k)+j)*Y/\v.length<=k+(dC.D Y).length+2/\j<=dC.dv a[k]/\dB w wr) (fun _ i _=>dC.dv a[k]-(intOf i).toNat)
   case atStart=>
    refine⟨u++[48],0,rfl,rfl,dC.zY r (dC.vD ⟨aY,aY⟩ dC.rP),?_,aX,aR,z⟩;rw[Vw,A.o,Nat.add_zero,Nat.mul_assoc]
   case round=>
    obtain⟨v,j,rfl,rfl,b,C,hlv,hj,D⟩:=hrel;have c:Hid _:=C;clear C;have E:dC.dv a[k]=a[k].toNat-48:=rfl
    by_cases hjd:j<a[k].toNat-48
    ·have O:Hid ((dC.plain v).length<=k+1+(dC.D Y).length):=by
      show _<=_;rw[dC.yH b];refine J2 l (k+1) Y _ ?_;rw[c.o,B.o];exact Nat.mul_le_mul_right _ aR
     have hpl:=dC.DF v;clear E;go_wp2_with fail;refine(wG v _ aR).mono ?_;rintro e f ⟨rfl,rfl⟩;go_wp2_with fail;refine(Rv _ _ _ (dC.MI b) (dC.rC Y) aR aR).mono ?_;rintro e w3 ⟨⟨P,rfl,Q,F,hlt3⟩,R⟩;have S:Hid _:=F;clear F;go_wp2;go_roundw
     case rel=>
      have hp:=O.o;refine⟨P,j+1,rfl,bL,Q,?_,aR,by unfold dC.dv;omega,D.dW R⟩;rw[S.o,dC.DD,c.o,dC.lQ,<-Nat.add_assoc,Nat.add_mul (10*dC.val (a.take k)+j) 1 Y,Nat.one_mul]
     case measure=>simp[intOf,dC.dv];omega
    ·clear E;have G:j=dC.dv a[k]:=by unfold dC.dv at *;omega
     have T:Hid _:=G;clear G;go_wp2;go_roundw
     case rel=>
      refine⟨v,k+1,rfl,bL,b,?_,aR,aR,D⟩;rw[c.o,B.o,T.o]
     case measure=>exact aph
  ·go_wp2_with fail;refine(pX _ _ _ r aR).mono ?_;rintro e w4 ⟨rfl,rfl⟩
   have U:∀d:Bool,d=(m !=n)->(if d=true then -(dC.val u:Int) else(dC.val u:Int))=x*y:=by
    intro d V;rw[V];have W:=J.o;have X:=K.o;have H:=A.o;rw[List.take_of_length_le aR,I.o]at H;rw[H,<-M.o];exact WC x y m n W X
   rw[U _ (by cases m<;>cases n<;>rfl)];go_wp2;go_ret;exact⟨rfl,z⟩
def valOf:Value->Nat|.string s=>dC.val s.data.toList|_=>0
theorem EG (n:Nat):valOf (dD (dC.D n))=n:=by simp[valOf,dC.lQ]
theorem LA (a:dN)(k:Nat)(h:k<a.length):List.drop k (List.take (k+1) a)=[a[k]]:=by
 rw[List.take_succ_eq_append_getElem h,List.drop_append];simp[Nat.min_eq_left (Nat.le_of_lt h)]
theorem MJ (n:Nat)(c:UInt8)(h:48<=c.toNat/\c.toNat<=57):dC.plain (dC.D n++[c])=dC.D (10*n+dC.dv c):=by
 rw[dC.yH (dC.zY (dC.rC n) (dC.vD h dC.rP)),dC.jM,dC.lQ]
theorem Xy {Bt:Nat}(h:10*n+Bt=m*i+k)(b:n<i)(c:Bt<=9)(d:i<=k):m+1<=9:=by
 rcases Nat.lt_or_ge m 9 with a|a
 ·exact aR
 ·have:=Nat.mul_le_mul_right i a;exact aR
theorem Rl (x y:Nat)(w:World)(n:0<y)(W:(dC.D x).length<=900000000000)(X:(dC.D y).length<=900000000000) :
 dH 255 #[dD (dC.D x),dD (dC.D y)] w λe f=>(∃q:dN,e=dF (dM #[dD q,dD (dC.D (x % y))])/\dC.Dg q/\dC.val q=x / y/\q.length<=(dC.D x).length)/\dB w f:=by
 have Y:=gU;have G:=dC.rC x;have H:Hid _:=dC.lQ x;generalize dC.D x=a at *;go_enter func255,ntmps255;go_wp2_with fail
 go_loopw [6,7,8] (fun q r i wr=>∃(u:dN) (b k:Nat),q=dD u/\r=dD (dC.D b)/\i=dw k/\dC.Dg u/\u.length=k/\dC.val (a.take k)=dC.val u*y+b/\b<y/\k<=a.length/\dB w wr) (fun _ _ i _=>a.length-(intOf i).toNat)
 ·exact⟨[],0,0,rfl,by rw[dC.jL],rfl,dC.rP,rfl,aW,n,aR,af⟩
 case round=>
  obtain⟨u,b,k,rfl,rfl,rfl,o,p,s,g,Z,v⟩:=hrel;have z:Hid _:=s;have A:Hid _:=p;have ak2:u.length<=a.length:=aR;clear s p;have hrl:=dC.mR (Nat.le_of_lt g)
  by_cases B:k<a.length
  ·have C:=G a[k] aW;have I:=dC.CE C;have J:Hid _:=iQ a k B;have hsl:=LA a k B;have K:(dC.D b++[a[k]]).length<=1000000000000:=aX;have L:Hid _:=MJ b a[k] C;go_wp2_with fail;refine(wG _ _ K).mono ?_;rintro e f ⟨rfl,rfl⟩;rw[L.o];go_wp2_with fail
   go_loopw [7,9] (fun r M wr=>∃(c d:Nat),r=dD (dC.D c)/\M=dw d/\10*b+dC.dv a[k]=d*y+c/\d<=9/\dB w wr) (fun r _ _=>valOf r)
   ·exact⟨_,0,rfl,rfl,aW,aR,v⟩
   case round=>
    obtain⟨c,d,rfl,rfl,j,N,D⟩:=hrel;have l:Hid _:=j;have O:c<=10*y:=aP j
    have hcl:(dC.D c).length<=910000000000:=by
     have m:=dC.mR O;have h2:=dC.Af 10 y;have h3:(dC.D 10).length<=2:=dC.nD aR;exact aR
    clear j;go_wp2_with fail;refine(Nk _ _ _ aR aR).mono ?_;rintro e f ⟨rfl,rfl⟩
    by_cases h:c<y
    ·rw[decide_eq_true h];have hcv:=LU;have hd:=AA (d:Int) d rfl N;go_wp2;go_roundw
     case rel=>
      refine⟨u++[dC.rO d],c,k+1,rfl,rfl,bL,dC.zY o (dC.vD (dC.Il d) dC.rP),?_,?_,h,aR,D.fO⟩
      ·have:=A.o;exact aX
      ·rw[J.o,z.o,dC.jM,dC.Ij,Nat.mod_eq_of_lt aR,Nat.add_mul,Nat.mul_add,Nat.mul_assoc];have:=l.o;exact aR
     case measure=>exact aph
    ·rw[decide_eq_false h];go_wp2_with fail;refine(Jk _ _ _ (Nat.le_of_not_lt h) aR).mono ?_;rintro e w3 ⟨⟨t,rfl,P,E,Q⟩,R⟩;have S:Hid (dC.plain t=dC.D (c-y)):=by have:=dC.yH P;rw[E]at this;exact this
     have T:t.length<=1000000000000:=aR;clear E Q;go_wp2_with fail;refine(wG t _ T).mono ?_;rintro e f ⟨rfl,rfl⟩;rw[S.o];go_wp2;go_roundw
     case rel=>
      refine⟨c-y,d+1,rfl,bL,?_,Xy l.o g I aR,D.dW R⟩;rw[l.o,Nat.add_mul];exact aR
     case measure=>rw[EG,EG];omega
  ·have F:Hid (x=dC.val u*y+b):=by
    have m:=z.o;rw[List.take_of_length_le aR,H.o]at m;exact m
   have U:Hid (x % y=b):=by show _=_;rw[F.o,Nat.mul_comm,Nat.mul_add_mod,Nat.mod_eq_of_lt g]
   have V:Hid (x / y=dC.val u):=by show _=_;rw[F.o,Nat.mul_comm,Nat.mul_add_div n,Nat.div_eq_of_lt g];rfl
   go_wp2;go_ret2;exact⟨⟨u,by rw[U.o];rfl,o,V.o.symm,ao4⟩,v⟩
theorem Nu (n:Nat)(h:0<n):(dC.D n).isEmpty=false:=by
 cases e:dC.D n with
 | nil=>have:=dC.Da.1 e;omega
 | cons=>rfl
theorem ad6 (x y:Int)(w:World)(B:(dC.dec x).length<=800000000000)(C:(dC.dec y).length<=800000000000) :
 dH 214 #[dD (dC.dec x),dD (dC.dec y)] w λe l=>e=dF (dD (dC.dec (Int.gcd x y)))/\dB w l:=by
 have D:=gU;have E:=dC.iC x;have F:=dC.iC y;go_enter func214,ntmps214;go_wp2_with fail;refine(mK x _ aR).dX λG c=>?_;go_wp2_with fail;refine(mK y _ aR).dX λH d=>?_;generalize decide (x<0)=I at *;generalize decide (y<0)=J at *;have m:=c.dW d;clear c d;have n:Hid (Int.gcd x y=Nat.gcd x.natAbs y.natAbs):=rfl;generalize x.natAbs=o at *;generalize y.natAbs=r at *;go_wp2_with fail
 go_loopw [6,8] (fun s b wr=>∃p q:Nat,s=dD (dC.D p)/\b=dD (dC.D q)/\Nat.gcd p q=Int.gcd x y/\(dC.D p).length<=900000000000/\(dC.D q).length<=900000000000/\dB w wr) (fun _ b _=>valOf b)
 ·exact⟨o,r,rfl,rfl,n.o.symm,aR,aR,m⟩
 case round=>
  obtain⟨p,q,rfl,rfl,f,t,g,h⟩:=hrel;have i:Hid _:=f;clear f
  by_cases j:q=0
  ·subst j;have a:=i.o;rw[Nat.gcd_zero_right]at a;have u:Hid _:=a;clear a;rw[dC.jL];have v:Hid _:=dC.lQ p;have z:=dC.rC p;go_wp2_with fail;refine(pX _ _ _ z aR).mono ?_;rintro e K ⟨rfl,rfl⟩;rw[v.o];go_wp2;go_ret;exact⟨ic (by rw[<-u.o]),h⟩
  ·have L:=Nu q aR;have M:=dC.mR (Nat.le_of_lt (Nat.mod_lt p (Nat.pos_of_ne_zero j)));have k:0<q:=aR;go_wp2_with fail;refine(Rl p q _ k t g).mono ?_;rintro e N ⟨⟨O,rfl,_,_,_⟩,A⟩;go_wp2;go_roundw
   case rel=>
    refine⟨q,p % q,rfl,rfl,?_,g,aR,h.dW A⟩;rw[<-i.o,Nat.gcd_comm p q,Nat.gcd_rec q p];exact Nat.gcd_comm _ _
   case measure=>rw[EG,EG];exact Nat.mod_lt _ k
theorem aa3 (e:0<=z)(f:0<Z)(g:n=z.natAbs / Z.natAbs):-(-z / Z)=if z.natAbs % Z.natAbs=0 then(n:Int) else n+1:=by
 obtain⟨a,rfl⟩:=Int.eq_ofNat_of_zero_le e;obtain⟨b,rfl⟩:=Int.eq_ofNat_of_zero_le (Int.le_of_lt f);simp only[Int.natAbs_natCast]at *;have h:0<b:=aR;subst g;split
 ·rename_i i;have d:a=b*(a / b):=aP (Nat.div_add_mod a b)
  have c:-(a:Int)=(b:Int)*(-((a / b:Nat):Int)):=by
   conv=>lhs;rw[d]
   rw[Int.natCast_mul,Int.mul_neg]
  rw[c,Int.mul_ediv_cancel_left _ aR];exact aR
 ·rename_i i;have d:=Nat.div_add_mod a b;have j:=Nat.mod_lt a h
  have c:-(a:Int)=(b:Int)*(-((a / b:Nat):Int)-1)+((b:Int)-((a % b:Nat):Int)):=by
   rw[Int.mul_sub,Int.mul_neg,Int.mul_one,<-Int.natCast_mul];exact aR
  rw[c,Int.mul_add_ediv_left _ _ aR,Int.ediv_eq_zero_of_lt aR aR];exact aR
theorem aa4 (f:z<0)(b:0<Z)(a:n=z.natAbs / Z.natAbs):-(-z / Z)=-(n:Int):=by
 obtain⟨c,d⟩:=Int.eq_ofNat_of_zero_le (a:=-z) aR;obtain⟨g,rfl⟩:=Int.eq_ofNat_of_zero_le (Int.le_of_lt b);have e:z.natAbs=c:=aR;rw[e]at a;rw[d,a];exact aW
theorem ab5 (x u:Int)(w:World)(g:0<u)(C:(dC.dec x).length<=800000000000)(D:(dC.dec u).length<=800000000000) :
 dH 216 #[dD (dC.dec x),dD (dC.dec u)] w λe t=>e=dF (dD (dC.dec (-(-x / u))))/\dB w t:=by
 have E:=gU;have F:=dC.iC x;have G:=dC.iC u;go_enter func216,ntmps216;go_wp2_with fail;refine(mK x _ aR).dX λH h=>?_;go_wp2_with fail;refine(mK u _ aR).dX λI i=>?_;generalize j:decide (x<0)=v at *;generalize decide (u<0)=J at *;have k:Hid _:=j;have l:=h.dW i;clear h i j;go_wp2_with fail;refine(Rl _ _ _ aR aR aR).mono ?_;rintro e K ⟨⟨q,rfl,m,n,L⟩,o⟩;have p:Hid _:=n;have b:=l.dW o;clear n l o;go_wp2_with fail;refine(pX _ _ _ m aR).mono ?_;rintro e M ⟨rfl,rfl⟩;cases v
 ·have c:0<=x:=by have:=k.o;simp at this;exact this
  have a:Hid _:=aa3 c g p.o;simp only[Bool.false_eq_true,if_false]
  by_cases d:x.natAbs % u.natAbs=0
  ·have f:Hid (-(-x / u)=(dC.val q:Int)):=by have:=a.o;rw[if_pos d]at this;exact this
   rw[d,dC.jL];go_wp2;go_ret;exact⟨ic (congrArg dC.dec f.o.symm),b⟩
  ·have f:Hid (-(-x / u)=(dC.val q:Int)+1):=by have:=a.o;rw[if_neg d]at this;exact this
   have N:=Nu (x.natAbs % u.natAbs) aR
   have y:(dC.dec (dC.val q:Int)).length<=900000000000:=by
    have z:=dC.pG (dC.val q:Int);have O:(dC.D (dC.val q)).length<=q.length:=dC.nD (dC.kQ m);simp only[Int.natAbs_natCast]at z;exact aR
   have A:Hid _:=dC.lD;go_wp2_with fail;rw[<-A.o];refine(vQ (dC.val q) 1 _ y (by rw[dC.lD];simp)).dX λP B=>?_;go_wp2;go_ret;exact⟨ic (congrArg dC.dec f.o.symm),b.dW B⟩
 ·have c:x<0:=by have:=k.o;simp at this;exact this
  have a:Hid _:=aa4 c g p.o;simp only[if_true];generalize dC.D (x.natAbs % u.natAbs)=r
  by_cases s:r.isEmpty=true
  ·go_wp2;go_ret;exact⟨ic (congrArg dC.dec a.o.symm),b⟩
  ·have Q:r.isEmpty=false:=by simpa using s
   clear s;go_wp2;go_ret;exact⟨ic (congrArg dC.dec a.o.symm),b⟩
def rA (c:UInt8):Bool:=48<=c&&c<=57
def qx (u:dN):Bool:=u.all rA&&!u.isEmpty&&u.head? !=some 48
theorem ag1:dC.Is [48]=true:=rfl
theorem afX (u:dN):dC.Is (45::u)=qx u:=by
 unfold dC.Is qx rA;have:((45::u:dN)==[48])=false:=by cases u<;>rfl
 rw[this];rfl
theorem OX (h:(x==[48])=false)(a:¬x.head?=some 45):dC.Is x=qx x:=by
 unfold dC.Is qx rA;rw[h];simp only[if_neg a,Bool.false_or]
theorem adH {c:UInt8}(a:¬(c.toNat:Int)<48)(b:¬(57:Int)<(c.toNat:Int)):rA c=true:=by
 unfold rA;simp only[Bool.and_eq_true,decide_eq_true_eq,UInt8.le_iff_toNat_le];exact⟨by show 48<=c.toNat;omega,by show c.toNat<=57;omega⟩
theorem aaR {c:UInt8}(h:(c.toNat:Int)<48\/(57:Int)<(c.toNat:Int)):rA c=false:=by
 unfold rA;rw[Bool.eq_false_iff];intro e;simp only[Bool.and_eq_true,decide_eq_true_eq,UInt8.le_iff_toNat_le]at e;have a:48<=c.toNat:=e.1;have b:c.toNat<=57:=e.2;exact aR
theorem LK (u:dN)(k:Nat)(h:k<u.length):(u.take (k+1)).all rA=((u.take k).all rA&&rA u[k]):=by
 rw[List.take_succ_eq_append_getElem h,List.all_append];exact aW
theorem Nv (h:n<x.length)(a:rA x[n]=false):qx x=false:=by
 unfold qx
 have:x.all rA=false:=by
  rw[List.all_eq_false];exact⟨x[n],aW,by simp[a]⟩
 rw[this];rfl
theorem QE (h:¬0<x.length):qx x=false:=by
 have:x=[]:=List.length_eq_zero_iff.1 aR;subst this;rfl
theorem QF (h:0<x.length)(b:x.all rA=true):qx x=((x[0].toNat:Int) !=48):=by
 cases x with
 | nil=>simp at h
 | cons d v=>
  unfold qx;rw[b];simp only[List.isEmpty_cons,List.head?_cons,List.getElem_cons_zero,Bool.not_false,Bool.true_and]
  by_cases a:d=48
  ·subst a;rfl
  ·have c:(some d !=some (48:UInt8))=true:=by simp[a]
   have e:((d.toNat:Int) !=48)=true:=by
    rw[bne_iff_ne];intro f;exact a (dC.ll (show d.toNat=(48:UInt8).toNat from by show d.toNat=48;omega))
   rw[c,e]
theorem OY (l:dN)(w:World)(_hl:l.length<=1000000000000) :
 dH 227 #[dD l] w λe o=>e=dF (.bool (dC.Is l))/\o=w:=by
 have y:=gU
 by_cases b:(l==[48])=true
 ·have:=eq_of_beq b;subst this;rw[ag1];go_enter func227,ntmps227;go_wp2;go_ret;exact⟨rfl,rfl⟩
 ·have b:(l==[48])=false:=amJ
  obtain⟨u,h,p,q⟩:∃u:dN,dC.Is l=qx u/\u.length<=l.length/\(l=45::u\/(u=l/\¬0<u.length)\/(u=l/\∃z:0<u.length,((u[0].toNat:Int)==45)=false)):=by
   cases l with
   | nil=>exact⟨[],rfl,aW,.inr (.inl ⟨rfl,aW⟩)⟩
   | cons c u=>
    by_cases d:c=45
    ·subst d;exact⟨u,afX u,aW,.inl rfl⟩
    ·refine⟨c::u,OX b (by simp[d]),ae,.inr (.inr ⟨rfl,aW,?_⟩)⟩;rw[beq_eq_false_iff_ne];intro e;exact d (dC.ll (show c.toNat=(45:UInt8).toNat from by simp at e;show c.toNat=45;omega))
  rw[h];clear h;have A:u.length<=1000000000000:=aR;go_enter func227,ntmps227;rcases q with rfl|⟨rfl,B⟩|⟨rfl,r,d⟩
  rotate_left
  ·have:u=[]:=List.length_eq_zero_iff.1 aR;subst this;go_wp2_with fail
   go_loop [3] (fun i=>i=dw 0) (fun _=>0)
   ·rfl
   case round=>
    subst hrel;go_wp2;go_ret;exact⟨rfl,rfl⟩
  all_goals
   clear p _hl;go_wp2_with fail
   go_loop [3] (fun i=>∃k:Nat,i=dw k/\k<=u.length/\(u.take k).all rA=true) (fun i=>u.length-(intOf i).toNat)
   ·exact⟨0,rfl,aR,aW⟩
   case round=>
    obtain⟨k,rfl,C,j⟩:=hrel;have m:Hid _:=j;clear j
    by_cases n:k<u.length
    ·have s:Hid _:=LK u k n
     by_cases a:(u[k].toNat:Int)<48\/(57:Int)<(u[k].toNat:Int)
     ·have t:Hid _:=Nv n (aaR a);rcases a with a|a
      all_goals
       go_wp2;go_ret;exact⟨dS t.o.symm,rfl⟩
     ·have D:(48:Int)<=(u[k].toNat:Int):=aR;have E:(u[k].toNat:Int)<=57:=aR;have v:Hid _:=adH (c:=u[k]) aR aR;clear a;go_wp2;go_round
      ·exact⟨k+1,bL,aR,by rw[s.o,m.o,v.o];rfl⟩
      ·exact aph
    ·have x:Hid (u.all rA=true):=by have:=m.o;rw[List.take_of_length_le aR]at this;exact this
     by_cases f:0<u.length
     ·have g:Hid _:=QF f x.o;go_wp2;go_ret;exact⟨dS g.o.symm,rfl⟩
     ·have g:Hid _:=QE f
      first|(exfalso;exact f r)|(go_wp2;go_ret;exact⟨dS g.o.symm,rfl⟩)
