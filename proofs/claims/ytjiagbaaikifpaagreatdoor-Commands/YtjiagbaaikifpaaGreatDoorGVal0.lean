import Derived.Test.YtjiagbaaikifpaaGreatDoorGNumMath2
set_option maxRecDepth 100000
set_option maxHeartbeats 16000000
namespace Doc
variable {f:List Int}{g:List Sym}{l:List Nat}{m n:Nat}{q:List Term}{s:Str}{z:Int}
structure En where
 sym:Int
 other:Bool
 args:List Str
 val:Str
def jA (t:Str)(s:Nat):Bool:=dC.Is t&&(if s=1 then t==[48]||t==[49] else if s=3 then t.head? !=some 45 else true)
def sZ:List Str->List Nat->Bool
 | [],_=>true
 | t::ts,s::ss=>jA t s&&sZ ts ss
 | _::_,[]=>true
def kF (ss:List Sym)(e:En):Bool:=
 decide (0<=e.sym)&&decide (e.sym<ss.length)&&jA e.val (iW ss e.sym.toNat)&&(if e.other then e.args.length==0 else e.args.length==(iD ss e.sym.toNat).length)&&sZ e.args (iD ss e.sym.toNat)
def lawful (ss:List Sym)(m:List En):Bool:=m.all (kF ss)
def look (m:List En)(s:Nat)(args:List Str):Str:=
 match m.find? (λe=>e.sym==(s:Int)&&!e.other&&e.args==args) with
 | some e=>e.val
 | none=>match m.find? (λe=>e.sym==(s:Int)&&e.other) with
  | some e=>e.val
  | none=>[48]
def num (t:Str):Int:=if t.head?=some 45 then -(dC.val t.tail:Int) else(dC.val t:Int)
def two (zs:List Int):Nat->Bool
 | 0=>false
 | k+1=>two zs k||(zs.take k).any (λx=>x==zs.getD k 0)
def truth (op:Nat)(zs:List Int):Bool:=
 if op=3 then zs.getD 0 0==0
 else if op=4 then zs.all (·==1)
 else if op=5 then zs.any (·==1)
 else if op=6 then zs.getD 0 0 !=zs.getD 1 0
 else if op=7 then zs.getD 0 0==0||zs.getD 1 0==1
 else if op=8 then zs.getD 0 0==zs.getD 1 0
 else if op=9 then !two zs zs.length
 else if op=11 then decide (zs.getD 0 0<zs.getD 1 0)
 else !decide (zs.getD 1 0<zs.getD 0 0)
def tv (m:List En)(t:Term)(zs:List Int):Int:=
 if t.op=1 then 1
 else if t.op=2 then 0
 else if t.op=14 then num t.text
 else if t.op=13 then num (look m t.sym (zs.map dC.dec))
 else if t.op=12 then(if zs.getD 0 0=1 then zs.getD 1 0 else zs.getD 2 0)
 else if t.op=15 then -(zs.getD 0 0)
 else if t.op=17 then zs.getD 0 0-zs.getD 1 0
 else if t.op=18 then zs.getD 0 0*zs.getD 1 0
 else if t.op=16 then zs.sum
 else if truth t.op zs then 1 else 0
def rG (m:List En):List Term->List Int->List Int
 | [],acc=>acc
 | t::ts,acc=>rG m ts (acc++[tv m t (t.args.map (λa=>acc.getD a 0))])
def vals (m:List En)(ts:List Term):List Int:=rG m ts []
def value (m:List En)(ts:List Term)(k:Nat):Int:=(vals m ts).getD k 0
def holds (S:dO)(m:List En):Bool × Nat:=if lawful S.syms m then(S.held.all (λh=>value m S.terms h==1),0) else(false,12)
theorem aee {m:List En}{t:Term}(h:t.op=1):tv m t f=1:=anb
theorem aed {m:List En}{t:Term}(h:t.op=2):tv m t f=0:=anb
theorem Si {m:List En}{t:Term}(h:t.op=14):tv m t f=num t.text:=anb
theorem Sj {m:List En}{t:Term}(h:t.op=13):tv m t f=num (look m t.sym (f.map dC.dec)):=anb
theorem Sk {m:List En}{t:Term}(h:t.op=12):tv m t f=if f.getD 0 0=1 then f.getD 1 0 else f.getD 2 0:=anb
theorem Sg {m:List En}{t:Term}(h:t.op=15):tv m t f=-(f.getD 0 0):=anb
theorem Sc {m:List En}{t:Term}(h:t.op=17):tv m t f=f.getD 0 0-f.getD 1 0:=anb
theorem Sb {m:List En}{t:Term}(h:t.op=18):tv m t f=f.getD 0 0*f.getD 1 0:=anb
theorem Sd {m:List En}{t:Term}(h:t.op=16):tv m t f=f.sum:=anb
theorem Mg {m:List En}{t:Term}(a:t.op≠1)(b:t.op≠2)(c:t.op≠14)(d:t.op≠13)(e:t.op≠12)(g:t.op≠15)(h:t.op≠17)(i:t.op≠18)(j:t.op≠16):tv m t f=if truth t.op f then 1 else 0:=by simp[tv,a,b,c,d,e,g,h,i,j]
theorem F7 (h:f[n]?=some z):(f.take (n+1)).sum=(f.take n).sum+z:=by
 rw[List.take_add_one,h];exact aW
theorem EK (z:Int):num (dC.dec z)=z:=by
 unfold num
 by_cases h:(dC.dec z).head?=some 45
 ·rw[if_pos h];have b:=(dC.vF z).1 h;rw[dC.vE b];simp only[List.tail_cons,dC.lQ];exact aR
 ·rw[if_neg h];have b:¬z<0:=λe=>h ((dC.vF z).2 e);rcases Int.lt_or_eq_of_le (show 0<=z by omega) with a|a
  ·rw[dC.ET a,dC.lQ];exact aR
  ·subst a;rw[dC.gV];rfl
theorem adK (h:dC.Is s=true):dC.dec (num s)=s:=by
 obtain⟨z,rfl⟩:=dC.qD h;rw[EK]
theorem Bv (a b:Int):(dC.dec a==dC.dec b)=(a==b):=by
 rw[Bool.eq_iff_iff,beq_iff_eq,beq_iff_eq];exact⟨dC.JK,λh=>by rw[h]⟩
theorem Oq (a:Int):(dC.dec a==[48])=(a==0):=by have:=Bv a 0;rwa [dC.gV]at this
theorem yV (a:Int):(dC.dec a==[49])=(a==1):=by have:=Bv a 1;rwa [dC.lD]at this
theorem CL (h:f[n]?=some z)(p:Int->Bool):(f.take (n+1)).any p=((f.take n).any p||p z):=by
 rw[List.take_add_one,h];exact aW
theorem abg (h:f[n]?=some z)(p:Int->Bool):(f.take (n+1)).all p=((f.take n).all p&&p z):=by
 rw[List.take_add_one,h];exact aW
theorem iI {a:Type}{l:List a}{x d:a}(h:l[n]?=some x):l.getD n d=x:=by rw[List.getD_eq_getElem?_getD,h];rfl
theorem GR (m:List En)(a c:List Term)(b:List Int):rG m (a++c) b=rG m c (rG m a b):=by
 induction a generalizing b with
 | nil=>rfl
 | cons t a d=>simp only[List.cons_append,rG];exact d _
theorem GQ (m:List En)(b:List Term)(a:List Int):∃c,rG m b a=a++c/\c.length=b.length:=by
 induction b generalizing a with
 | nil=>exact⟨[],by simp[rG],rfl⟩
 | cons t b d=>
  obtain⟨c,e,f⟩:=d (a++[tv m t (t.args.map (λg=>a.getD g 0))]);exact⟨_::c,by simp only[rG];rw[e,List.append_assoc];rfl,by simp[f]⟩
theorem yD (m:List En)(a:List Term):(vals m a).length=a.length:=by
 obtain⟨d,b,c⟩:=GQ m a [];unfold vals;rw[b];simpa using c
theorem Lt {b:Type}{a c:List b}{d:b}(h:n<a.length):(a++c).getD n d=a.getD n d:=by
 rw[List.getD_eq_getElem?_getD,List.getD_eq_getElem?_getD,List.getElem?_append_left h]
theorem tV {a:List En}{n:Nat}(c:n<=q.length)(d:m<n):(vals a (q.take n)).getD m 0=value a q m:=by
 have h:vals a q=rG a (q.drop n) (vals a (q.take n)):=by unfold vals;rw[<-GR,List.take_append_drop]
 obtain⟨e,b,_⟩:=GQ a (q.drop n) (vals a (q.take n));unfold value;rw[h,b,Lt (by rw[yD,List.length_take];omega)]
theorem J3 {m:List En}{t:Term}(h:q[n]?=some t):vals m (q.take (n+1))=vals m (q.take n)++[tv m t (t.args.map (λa=>(vals m (q.take n)).getD a 0))]:=by
 rw[List.take_add_one,h];unfold vals;rw[GR];rfl
theorem yC {m:List En}{t:Term}(h:q[n]?=some t)(b:∀a∈t.args,a<n):value m q n=tv m t (t.args.map (value m q)):=by
 have d:n<q.length:=(aG h).1;rw[<-tV (n:=n+1) aR (Nat.lt_succ_self n),J3 h,List.getD_eq_getElem?_getD,List.getElem?_append_right (by rw[yD,List.length_take];omega)];rw[yD,List.length_take,Nat.min_eq_left aR,Nat.sub_self];simp only[List.getElem?_cons_zero,Option.getD_some]
 congr 1
 exact List.map_congr_left (λa c=>tV aR (b a c))
theorem Fq {a:List Str}(h:sZ a l=true){i:Nat}{t:Str}{s:Nat}(b:a[i]?=some t)(c:l[i]?=some s):jA t s=true:=by
 induction a generalizing l i with
 | nil=>simp at b
 | cons x a d=>
  cases l with
  | nil=>simp at c
  | cons y l=>
   simp only[sZ,Bool.and_eq_true]at h;cases i with
   | zero=>simp at b c;subst b;subst c;exact h.1
   | succ i=>exact d h.2 amJ (by simpa using c)
theorem Nl {e:En}(h:kF g e=true){s:Nat}(a:e.sym=s):jA e.val (iW g s)=true:=by
 unfold kF at h;simp only[Bool.and_eq_true]at h;have:=h.1.1.2;rw[a]at this;exact this
theorem Ni {m:List En}(h:lawful g m=true)(s:Nat)(c:List Str):jA (look m s c) (iW g s)=true\/look m s c=[48]:=by
 unfold lawful at h;rw[List.all_eq_true]at h;unfold look;split
 ·rename_i e a;have b:=List.find?_some a;simp only[Bool.and_eq_true,beq_iff_eq]at b;exact .inl (Nl (h e (List.mem_of_find?_eq_some a)) b.1.1)
 ·split
  ·rename_i e a;have b:=List.find?_some a;simp only[Bool.and_eq_true,beq_iff_eq]at b;exact .inl (Nl (h e (List.mem_of_find?_eq_some a)) b.1)
  ·exact .inr rfl
theorem Rh {m:List En}(h:lawful g m=true)(s:Nat)(b:List Str):dC.Is (look m s b)=true:=by
 rcases Ni h s b with a|a
 ·unfold jA at a;simp only[Bool.and_eq_true]at a;exact a.1
 ·rw[a];rfl
theorem Xn:∀f∈forms,f.op=12\/f.sort=2\/(f.op≠1/\f.op≠2/\f.op≠12/\f.op≠13/\f.op≠14/\f.op≠15/\f.op≠16/\f.op≠17/\f.op≠18):=aY
theorem aaK:∀f∈forms,f.op=12->f.sort=0/\f.args=0/\f.least=3/\f.most=3:=aY
theorem GN {m:List En}(y:iB g q)(z:lawful g m=true):∀k,k<q.length->dY q k=1->value m q k=0\/value m q k=1:=by
 intro k
 induction k using Nat.strongRecOn with
 | ind k A=>
  intro n B;have d:=y.terms k n;have o:q[k]?=some q[k]:=aF n;have C:q[k].sort=1:=by simpa[dY,o] using B
  rw[yC o d.args];generalize q[k]=t at d o C;unfold tv;cases d.made with
  | bool h=>rcases h with h|h<;>simp[h]
  | num h a D=>omega
  | app h E a D=>
   simp only[h,Nat.reduceEqDiff,if_false,if_true];have F:iW g t.sym=1:=aR;rcases Ni z t.sym (List.map dC.dec (List.map (value m q) t.args)) with b|b
   ·unfold jA at b;rw[F]at b;simp only[if_true,Bool.and_eq_true,Bool.or_eq_true,beq_iff_eq]at b;rcases b.2 with e|e
    ·rw[e];exact .inl rfl
    ·rw[e];exact .inr rfl
   ·rw[b];exact .inl rfl
  | form f p h K a E L=>
   have G:f.op=12\/f.sort=2\/(f.op≠1/\f.op≠2/\f.op≠12/\f.op≠13/\f.op≠14/\f.op≠15/\f.op≠16/\f.op≠17/\f.op≠18):=Xn f p;rcases G with r|e|u
   ·obtain⟨M,N,O,P⟩:=nX f p;rw[r]at h;simp only[h,Nat.reduceEqDiff,if_false,if_true];have H:f.sort=0/\f.args=0/\f.least=3/\f.most=3:=aaK f p r;unfold fits at a
    by_cases j:t.args.length<f.least\/t.args.length>f.most
    ·rw[if_pos j]at a;cases a
    ·rw[if_neg j]at a
     by_cases l:f.op=12/\dY q (t.args.getD 0 0)≠1
     ·rw[if_pos l]at a;cases a
     ·rw[if_neg l]at a
      by_cases c:(t.args.drop f.from_).all (λs=>dY q s==f.want q t.args)=false
      ·rw[if_pos c]at a;cases a
      ·rw[if_neg c,if_neg aR,if_pos H.1]at a;injection a with a;have I:f.from_=1:=by unfold Form.from_;rw[if_pos r]
       have v:=Bool.not_eq_false _ ▸ c;rw[List.all_eq_true]at v;have Q:t.args.length=3:=aR
       have get:∀i,i<3->(t.args.map (value m q)).getD i 0=value m q (t.args.getD i 0):=λi hi=>by
        rw[List.getD_eq_getElem?_getD,List.getD_eq_getElem?_getD,List.getElem?_map,aF aR];rfl
       have one:∀i,1<=i->i<3->value m q (t.args.getD i 0)=0\/value m q (t.args.getD i 0)=1:=λi b e=>by
        have w:t.args.getD i 0∈t.args:=qC aR
        have J:t.args.getD i 0∈t.args.drop f.from_:=by
         rw[I,List.getD_eq_getElem?_getD,aF aR];simp only[Option.getD_some];rw[List.mem_iff_getElem];exact⟨i-1,aoz,by rw[List.getElem_drop];congr 1;omega⟩
        have:=v _ J;rw[beq_iff_eq]at this;exact A _ (d.args _ w) (Nat.lt_trans (d.args _ w) n) aR
       rw[get 0 aR,get 1 aR,get 2 aR];split
       ·exact one 1 aR aR
       ·exact one 2 aR aR
   ·have:f.sort≠0:=aR;exfalso;unfold fits at a
    by_cases j:t.args.length<f.least\/t.args.length>f.most
    ·rw[if_pos j]at a;cases a
    ·rw[if_neg j]at a
     by_cases l:f.op=12/\dY q (t.args.getD 0 0)≠1
     ·rw[if_pos l]at a;cases a
     ·rw[if_neg l]at a
      by_cases c:(t.args.drop f.from_).all (λs=>dY q s==f.want q t.args)=false
      ·rw[if_pos c]at a;cases a
      ·rw[if_neg c]at a
       by_cases x:f.op=9/\f.want q t.args=1
       ·rw[if_pos x]at a;cases a
       ·rw[if_neg x,if_neg this]at a;injection a with a;exact aR
   ·rw[<-h]at u;simp only[u,if_false];split
    ·exact .inr rfl
    ·exact .inl rfl
end Doc
namespace dZ
variable {K l:List Nat}{i j k m n:Nat}
def val:List Nat->Nat
 | []=>0
 | x::xs=>x+1000000000*val xs
def Ok (l:List Nat):Prop:=∀x∈l,x<1000000000
theorem Ok.nil:Ok []:=λx a=>by cases a
theorem Ok.snoc {l:List Nat}{x:Nat}(h:Ok l)(b:x<1000000000):Ok (l++[x]):=λy c=>by
 rcases List.mem_append.1 c with a|a
 ·exact h y a
 ·rw[List.mem_singleton.1 a];exact b
theorem Ok.take (h:Ok l)(n:Nat):Ok (l.take n):=λy a=>h y (List.mem_of_mem_take a)
theorem Ok.getD (h:Ok l)(i:Nat):l.getD i 0<1000000000:=by
 rw[List.getD_eq_getElem?_getD];cases e:l[i]? with
 | none=>simp
 | some x=>exact h x (List.mem_of_getElem? e)
theorem QY (a b:List Nat):val (a++b)=val a+1000000000 ^ a.length*val b:=by
 induction a with
 | nil=>simp[val]
 | cons x a c=>simp only[List.cons_append,val,c,List.length_cons,Nat.pow_succ,Nat.mul_add];rw[Nat.mul_comm (1000000000 ^ a.length) 1000000000,Nat.mul_assoc];omega
theorem jM (a:List Nat)(x:Nat):val (a++[x])=val a+1000000000 ^ a.length*x:=by rw[QY];simp[val]
theorem kQ (h:Ok l):val l<1000000000 ^ l.length:=by
 induction l with
 | nil=>simp[val]
 | cons x l a=>
  have c:=a (λy b=>h y (List.mem_cons_of_mem _ b));have d:=h x List.mem_cons_self;simp only[val,List.length_cons,Nat.pow_succ];generalize 1000000000 ^ l.length=p at *;exact aR
theorem iQ (l:List Nat)(i:Nat):val (l.take (i+1))=val (l.take i)+1000000000 ^ i*l.getD i 0:=by
 rw[List.take_add_one,List.getD_eq_getElem?_getD];cases e:l[i]? with
 | none=>simp
 | some x=>
  have hi:=(aG e).1;simp only[Option.toList_some,Option.getD_some];rw[jM,List.length_take,Nat.min_eq_left aR]
theorem kX {l:List Nat}(h:l.length<=n):val (l.take n)=val l:=by rw[List.take_of_length_le h]
structure Nm (l:List Nat):Prop where
 ok:Ok l
 top:l=[]\/l.getD (l.length-1) 0≠0
theorem Nm.nil:Nm []:=⟨Ok.nil,.inl rfl⟩
theorem Nm.ge (h:Nm l)(a:l≠[]):1000000000 ^ (l.length-1)<=val l:=by
 have d:0<l.length:=List.length_pos_iff.2 a;rcases h.top with b|b
 ·exact absurd b a
 ·have c:=iQ l (l.length-1);rw[Nat.sub_add_cancel d,kX ae]at c;rw[c];have e:1000000000 ^ (l.length-1)*1<=1000000000 ^ (l.length-1)*l.getD (l.length-1) 0:=Nat.mul_le_mul_left _ aR;exact aR
theorem Nm.pos (h:Nm l)(a:l≠[]):0<val l:=Nat.lt_of_lt_of_le (Nat.pow_pos aR) (h.ge a)
theorem Nm.Hd (a:Nm l)(b:Nm K)(h:l.length<K.length):val l<val K:=by
 have c:=kQ a.ok;have d:=b.ge (λe=>by rw[e]at h;simp at h);have f:1000000000 ^ l.length<=1000000000 ^ (K.length-1):=Nat.pow_le_pow_right aR aR;exact aR
theorem zA (l:List Nat)(i:Nat):val l=val (l.take i)+1000000000 ^ i*(l.getD i 0+1000000000*val (l.drop (i+1))):=by
 have h:val l=val (l.take (i+1)++l.drop (i+1)):=by rw[List.take_append_drop]
 by_cases hi:i<l.length
 ·rw[h,QY,iQ,List.length_take,Nat.min_eq_left aR,Nat.pow_succ,Nat.mul_add,Nat.mul_assoc];exact aR
 ·rw[kX aR,List.drop_eq_nil_of_le aR,List.getD_eq_getElem?_getD,List.getElem?_eq_none aR];simp[val]
theorem Me (a:Ok l)(i:Nat)(b:l.drop (i+1)=K.drop (i+1))(h:l.getD i 0<K.getD i 0):val l<val K:=by
 rw[zA l i,zA K i,b];have c:val (l.take i)<1000000000 ^ i:=Nat.lt_of_lt_of_le (kQ (a.take i)) (Nat.pow_le_pow_right aR amg);generalize 1000000000*val (K.drop (i+1))=d at *;have e:1000000000 ^ i*(l.getD i 0+d)+1000000000 ^ i=1000000000 ^ i*(l.getD i 0+d+1):=by rw[Nat.mul_add (1000000000 ^ i) _ 1,Nat.mul_one]
 have f:1000000000 ^ i*(l.getD i 0+d+1)<=1000000000 ^ i*(K.getD i 0+d):=Nat.mul_le_mul_left _ aR;exact aR
theorem Xv (a:n<l.length)(b:n<K.length)(c:l.drop (n+1)=K.drop (n+1))(h:l.getD n 0=K.getD n 0):l.drop n=K.drop n:=by
 rw[List.drop_eq_getElem_cons a,List.drop_eq_getElem_cons b,c];rw[List.getD_eq_getElem?_getD,List.getD_eq_getElem?_getD,aF a,aF b]at h;simp only[Option.getD_some]at h;rw[h]
def int (b:Bool)(l:List Nat):Int:=if b then -(val l:Int) else(val l:Int)
theorem aaU (h:l.getD n 0=0):val (l.take n)=val (l.take (n+1)):=by rw[iQ,h];simp
theorem Nm.adq (h:Ok l)(b:n<=l.length)(a:n=0\/l.getD (n-1) 0≠0):Nm (l.take n):=by
 refine⟨h.take n,?_⟩;rcases a with rfl|a
 ·exact .inl aW
 ·by_cases c:n=0
  ·subst c;exact .inl aW
  ·right
   rw[List.length_take,Nat.min_eq_left b,List.getD_eq_getElem?_getD,List.getElem?_take_of_lt aR,<-List.getD_eq_getElem?_getD];exact a
theorem Gy {s:List Nat}(a:s.length=n)(h:val s+1000000000 ^ n*m=val (l.take n)+val (K.take n)) :
 val (s++[(m+l.getD n 0+K.getD n 0) % 1000000000])+1000000000 ^ (n+1)*((m+l.getD n 0+K.getD n 0) / 1000000000)=val (l.take (n+1))+val (K.take (n+1)):=by
 rw[jM,a,iQ,iQ,Nat.pow_succ,Nat.mul_assoc];generalize l.getD n 0=x at *;generalize K.getD n 0=y at *;generalize 1000000000 ^ n=p at *;have b:=Nat.div_add_mod (m+x+y) 1000000000
 have c:p*((m+x+y) % 1000000000)+p*(1000000000*((m+x+y) / 1000000000))=p*m+p*x+p*y:=by
  rw[<-Nat.mul_add,Nat.add_comm ((m+x+y) % 1000000000),b,Nat.mul_add,Nat.mul_add]
 exact aR
theorem BS {a b s:List Nat}{i c x r d:Nat}(e:s.length=i)(h:val s+val (b.take i)=val (a.take i)+1000000000 ^ i*c)(f:r+b.getD i 0+c=a.getD i 0+1000000000*d)(g:x=r) :
 val (s++[x])+val (b.take (i+1))=val (a.take (i+1))+1000000000 ^ (i+1)*d:=by
 subst g;rw[jM,e,iQ,iQ,Nat.pow_succ,Nat.mul_assoc];generalize a.getD i 0=u at *;generalize b.getD i 0=y at *;generalize 1000000000 ^ i=p at *;have j:p*x+p*y+p*c=p*u+p*(1000000000*d):=by rw[<-Nat.mul_add,<-Nat.mul_add,f,Nat.mul_add]
 exact aR
theorem ac5 {x:Nat}(h:n<l.length):val (l.set n x)+1000000000 ^ n*l.getD n 0=val l+1000000000 ^ n*x:=by
 rw[zA (l.set n x) n,zA l n];have a:(l.set n x).take n=l.take n:=List.take_set_of_le ae;have b:(l.set n x).drop (n+1)=l.drop (n+1):=List.drop_set_of_lt aR;have c:(l.set n x).getD n 0=x:=by rw[List.getD_eq_getElem?_getD,List.getElem?_set_self h];rfl
 rw[a,b,c];generalize 1000000000*val (l.drop (n+1))=d;generalize l.getD n 0=y;generalize 1000000000 ^ n=p;rw[Nat.mul_add,Nat.mul_add];exact aR
theorem ZT {b:List Nat}(a:m<l.length)(e:n<=m)(h:val l+1000000000 ^ m*k=j+1000000000 ^ n*(i*val (b.take (m-n)))) :
 val (l.set m ((k+l.getD m 0+i*b.getD (m-n) 0) % 1000000000))+1000000000 ^ (m+1)*((k+l.getD m 0+i*b.getD (m-n) 0) / 1000000000)=j+1000000000 ^ n*(i*val (b.take (m+1-n))):=by
 have f:=ac5 (x:=(k+l.getD m 0+i*b.getD (m-n) 0) % 1000000000) a;rw[show m+1-n=(m-n)+1 by omega,iQ,Nat.mul_add i,Nat.mul_add (1000000000 ^ n)]
 have c:1000000000 ^ n*(i*(1000000000 ^ (m-n)*b.getD (m-n) 0))=1000000000 ^ m*(i*b.getD (m-n) 0):=by
  rw[Nat.mul_left_comm i,<-Nat.mul_assoc,<-Nat.pow_add,show n+(m-n)=m by omega]
 rw[c,Nat.pow_succ,Nat.mul_assoc];generalize i*b.getD (m-n) 0=y at *;generalize l.getD m 0=q at *;generalize 1000000000 ^ n*(i*val (b.take (m-n)))=W at *;generalize 1000000000 ^ m=p at *;have d:=Nat.div_add_mod (k+q+y) 1000000000
 have g:p*((k+q+y) % 1000000000)+p*(1000000000*((k+q+y) / 1000000000))=p*k+p*q+p*y:=by
  rw[<-Nat.mul_add,Nat.add_comm ((k+q+y) % 1000000000),d,Nat.mul_add,Nat.mul_add]
 exact aR
