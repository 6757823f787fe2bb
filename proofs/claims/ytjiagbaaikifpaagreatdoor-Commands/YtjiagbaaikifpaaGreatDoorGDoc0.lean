import Derived.Test.YtjiagbaaikifpaaGreatDoorA
set_option maxRecDepth 100000
set_option maxHeartbeats 16000000
namespace Doc
variable {i j k m n:Nat}{l:List Nat}
abbrev Str:=List UInt8
inductive Tr where
 | word (p:Nat) (w:Str)
 | list (p:Nat) (ks:List Tr)
def Tr.pos:Tr->Nat|.word p _=>p|.list p _=>p
def Tr.isList:Tr->Bool|.word _ _=>false|.list _ _=>true
def Tr.text:Tr->Str|.word _ w=>w|.list _ _=>[]
def Tr.kids:Tr->List Tr|.word _ _=>[]|.list _ ks=>ks
def sM:Str:=[97,98,99,100,101,102,103,104,105,106,107,108,109,110,111,112,113,114,115,116,117,118,119,120,121,122,
 65,66,67,68,69,70,71,72,73,74,75,76,77,78,79,80,81,82,83,84,85,86,87,88,89,90,
 48,49,50,51,52,53,54,55,56,57,45,43,42,60,62,61]
def named (c:UInt8):Bool:=sM.contains c
def jh (c:UInt8):Bool:=c==32||c==10
def blank (l:Str)(i:Nat):Nat:=i+((l.drop i).takeWhile jh).length
def gQ (l:Str)(i:Nat):Str:=(l.drop i).takeWhile named
inductive uB where
 | ok (t:Tr) (j:Nat)
 | err (e p:Nat)
def fQ (one:Nat->uB)(l:Str)(p:Nat):Nat->Nat->List Tr->uB
 | 0,i,_=>.err 2 i
 | f+1,i,acc=>
  match l[i]? with
  | none=>.err 2 i
  | some c=>
   if c=41 then .ok (.list p acc) (i+1)
   else if named c=false/\c≠40 then .err 2 i
   else match one i with
    | .err e q=>.err e q
    | .ok k j=>fQ one l p f (blank l j) (acc++[k])
def tree (l:Str):Nat->Nat->uB
 | 0,i=>if l[i]?=some 40 then .err 3 i else .ok (.word i (gQ l i)) (i+(gQ l i).length)
 | n+1,i=>if l[i]?=some 40 then fQ (tree l n) l i (l.length+1) (blank l (i+1)) [] else .ok (.word i (gQ l i)) (i+(gQ l i).length)
def parse (l:Str):Except (Nat × Nat) Tr:=
 if l[blank l 0]?=some 40 then
  match tree l 12 (blank l 0) with
  | .err e p=>.error (e,p)
  | .ok t j=>if blank l j<l.length then .error (2,blank l j) else .ok t
 else .error (2,blank l 0)
structure Sym where
 name:Str
 args:List Nat
 sort:Nat
structure Term where
 text:Str
 op:Nat
 sort:Nat
 sym:Nat
 args:List Nat
def gD (ss:List Sym)(w:Str):Option Nat:=ss.findIdx? (λs=>s.name==w)
def place (ts:List Term)(x:Str):Option Nat:=ts.findIdx? (λt=>t.text==x)
def digit (c:UInt8):Bool:=48<=c.toNat&&c.toNat<=57
def digits (w:Str):Bool:=w.length≠0&&w.length<=8&&!(w.head?==some 48&&w !=[48])&&w.all digit
def note (ts:List Term)(t:Term):Except Nat (List Term × Nat):=
 match place ts t.text with
 | some k=>.ok (ts,k)
 | none=>if ts.length=80 then .error 9 else .ok (ts++[t],ts.length)
def ou:Str:=[116,114,117,101]
def lZ:Str:=[102,97,108,115,101]
def zz:Str:=[66,111,111,108]
def Dv:Str:=[73,110,116]
def wU:Str:=[85]
def iD (ss:List Sym)(s:Nat):List Nat:=match ss[s]? with|some x=>x.args|none=>[]
def iW (ss:List Sym)(s:Nat):Nat:=match ss[s]? with|some x=>x.sort|none=>0
def lC (ss:List Sym)(s:Nat):Str:=match ss[s]? with|some x=>x.name|none=>[]
def dY (ts:List Term)(k:Nat):Nat:=match ts[k]? with|some t=>t.sort|none=>0
def qa (ts:List Term)(k:Nat):Nat:=match ts[k]? with|some t=>t.op|none=>0
def gG (ts:List Term)(k:Nat):Str:=match ts[k]? with|some t=>t.text|none=>[]
def qO (ts:List Term)(k:Nat):List Nat:=match ts[k]? with|some t=>t.args|none=>[]
def leaf (ss:List Sym)(ts:List Term)(w:Str):Except Nat (List Term × Nat):=
 if w=ou then note ts ⟨w,1,1,0,[]⟩
 else if w=lZ then note ts ⟨w,2,1,0,[]⟩
 else if digits w=true then note ts ⟨w,14,2,0,[]⟩
 else match gD ss w with
  | none=>.error 5
  | some s=>if 0<(iD ss s).length then .error 7 else note ts ⟨w,13,iW ss s,s,[]⟩
structure Form where
 word:Str
 print:Str
 op:Nat
 least:Nat
 most:Nat
 args:Nat
 sort:Nat
def forms:List Form:=[
 ⟨[110,111,116],[110,111,116],3,1,1,1,1⟩,
 ⟨[97,110,100],[97,110,100],4,2,4,1,1⟩,
 ⟨[111,114],[111,114],5,2,4,1,1⟩,
 ⟨[120,111,114],[120,111,114],6,2,2,1,1⟩,
 ⟨[61,62],[61,62],7,2,2,1,1⟩,
 ⟨[61],[61],8,2,2,0,1⟩,
 ⟨[100,105,115,116,105,110,99,116],[100,105,115,116,105,110,99,116],9,2,4,0,1⟩,
 ⟨[60,61],[60,61],10,2,2,2,1⟩,
 ⟨[60],[60],11,2,2,2,1⟩,
 ⟨[62,61],[60,61],10,2,2,2,1⟩,
 ⟨[62],[60],11,2,2,2,1⟩,
 ⟨[105,116,101],[105,116,101],12,3,3,0,0⟩,
 ⟨[43],[43],16,2,4,2,2⟩,
 ⟨[42],[42],18,2,2,2,2⟩,
 ⟨[45],[45],15,1,1,2,2⟩,
 ⟨[45],[45],17,2,2,2,2⟩]
def lT (w:Str):Bool:=forms.any (λf=>f.word==w)
def Form.from_ (f:Form):Nat:=if f.op=12 then 1 else 0
def Form.want (f:Form)(ts:List Term)(args:List Nat):Nat:=if f.args=0 then dY ts (args.getD f.from_ 0) else f.args
def fits (ts:List Term)(f:Form)(args:List Nat):Option Nat:=
 if args.length<f.least\/args.length>f.most then none
 else if f.op=12/\dY ts (args.getD 0 0)≠1 then none
 else if ((args.drop f.from_).all (λa=>dY ts a==f.want ts args))=false then none
 else if f.op=9/\f.want ts args=1 then none
 else if f.sort=0 then some (f.want ts args)
 else some f.sort
def number (ts:List Term)(k:Nat):Bool:=if qa ts k=15 then qa ts ((qO ts k).getD 0 0)==14 else qa ts k==14
def tail (ts:List Term)(args:List Nat):Str:=args.flatMap (λa=>32::gG ts a)
def written (ts:List Term)(name:Str)(args:List Nat):Str:=if args.length=0 then name else 40::name++tail ts args++[41]
def applied (ss:List Sym)(ts:List Term)(s:Nat)(args:List Nat):Except Nat (List Term × Nat):=
 if args.length=0\/args.length≠(iD ss s).length then .error 7
 else if args.map (dY ts)≠iD ss s then .error 7
 else note ts ⟨written ts (lC ss s) args,13,iW ss s,s,args⟩
def swap (args:List Nat):List Nat:=[args.getD 1 0,args.getD 0 0]
def turned (ts:List Term)(w:Str)(f:Form)(args:List Nat):Option (List Nat):=
 if f.op=18 then
  if number ts (args.getD 0 0)=true then some args
  else if number ts (args.getD 1 0)=true then some (swap args)
  else none
 else if w=[62,61]\/w=[62] then some (swap args)
 else some args
def jY (ts:List Term)(w:Str)(args:List Nat):List Form->Except Nat (List Term × Nat)
 | []=>.error 7
 | f::fs=>
  if f.word=w then
   match fits ts f args with
   | none=>jY ts w args fs
   | some sort=>
    match turned ts w f args with
    | none=>.error 8
    | some l=>note ts ⟨written ts f.print l,f.op,sort,0,l⟩
  else jY ts w args fs
def oH (ts:List Term)(w:Str)(args:List Nat):Except Nat (List Term × Nat):=jY ts w args forms
def iN (one:Tr->List Term->Except (Nat × Nat) (List Term × Nat)):List Tr->List Term->List Nat->Except (Nat × Nat) (List Term × List Nat)
 | [],ts,acc=>.ok (ts,acc)
 | k::ks,ts,acc=>
  match one k ts with
  | .error x=>.error x
  | .ok r=>iN one ks r.1 (acc++[r.2])
def je (p:Nat):Except Nat (List Term × Nat)->Except (Nat × Nat) (List Term × Nat)
 | .error e=>.error (e,p)
 | .ok r=>.ok r
def term (ss:List Sym):Nat->Tr->List Term->Except (Nat × Nat) (List Term × Nat)
 | 0,_,_=>.error (0,0)
 | _+1,.word p w,ts=>je p (leaf ss ts w)
 | _+1,.list p [],_=>.error (4,p)
 | _+1,.list _ (.list q _::_),_=>.error (4,q)
 | d+1,.list p (.word q w::rest),ts=>
  if lT w=false/\gD ss w=none then .error (5,q)
  else match iN (term ss d) rest ts [] with
   | .error x=>.error x
   | .ok r=>je p (if lT w=true then oH r.1 w r.2 else applied ss r.1 ((gD ss w).getD 0) r.2)
structure dO where
 syms:List Sym
 terms:List Term
 held:List Nat
 levels:List (Nat × Nat × Nat)
def gJ (w:Str):Nat:=if w=zz then 1 else if w=Dv then 2 else if w=wU then 3 else 0
def letter (c:UInt8):Bool:=(97<=c.toNat&&c.toNat<=122)||(65<=c.toNat&&c.toNat<=90)
def forbidden (w:Str):Bool:=
 lT w||w==ou||w==lZ||w==zz||w==Dv||w==wU||!(letter (w.headD 0))||decide (8<w.length)
def iA:List Tr->Option Nat
 | []=>none
 | .list p _::_=>some p
 | .word _ _::ks=>iA ks
def takes:List Tr->Except Nat (List Nat)
 | []=>.ok []
 | k::ks=>if gJ k.text=2\/gJ k.text=3 then(match takes ks with|.error p=>.error p|.ok l=>.ok (gJ k.text::l)) else .error k.pos
def declare (S:dO)(p:Nat)(ks:List Tr):Except (Nat × Nat) dO:=
 match ks with
 | [_,.list q _,_,_]=>.error (4,q)
 | [_,.word _ _,.word q _,_]=>.error (4,q)
 | [_,.word q w,.list r js,last]=>
  match iA js with
  | some x=>.error (4,x)
  | none=>
   if last.isList then .error (4,last.pos)
   else if forbidden w=true then .error (5,q)
   else if (gD S.syms w).isSome then .error (6,q)
   else if 2<js.length then .error (7,r)
   else match takes js with
    | .error x=>.error (7,x)
    | .ok l=>
     if gJ last.text=0 then .error (7,last.pos)
     else if S.syms.length=8 then .error (9,p)
     else .ok { S with syms:=S.syms++[⟨w,l,gJ last.text⟩] }
 | _=>.error (4,p)
def assert (S:dO)(p:Nat)(ks:List Tr):Except (Nat × Nat) dO:=
 match ks with
 | [_,t]=>
  match term S.syms 12 t S.terms with
  | .error x=>.error x
  | .ok r=>
   if dY r.1 r.2≠1 then .error (7,t.pos)
   else if S.held.length=12 then .error (9,p)
   else .ok { S with terms:=r.1,held:=S.held++[r.2] }
 | _=>.error (4,p)
def count (p:Nat)(ks:List Tr):Except (Nat × Nat) Nat:=
 match ks with
 | []=>.ok 1
 | [_]=>.ok 1
 | [_,k]=>
  if digits k.text=true then
   (if k.text=[48] then .ok 0 else if k.text=[49] then .ok 1 else if k.text=[50] then .ok 2 else if k.text=[51] then .ok 3 else if k.text=[52] then .ok 4 else .ok 5)
  else .error (4,k.pos)
 | _=>.error (4,p)
def push (S:dO)(p:Nat)(ks:List Tr):Except (Nat × Nat) dO:=
 match count p ks with
 | .error x=>.error x
 | .ok n=>if S.levels.length+n>4 then .error (9,p) else .ok { S with levels:=S.levels++List.replicate n (S.syms.length,S.terms.length,S.held.length) }
def SI (S:dO):dO:=
 match S.levels.getLast? with
 | none=>S
 | some l=>⟨S.syms.take l.1,S.terms.take l.2.1,S.held.take l.2.2,S.levels.dropLast⟩
def wY:Nat->dO->dO
 | 0,S=>S
 | n+1,S=>wY n (SI S)
def pop (S:dO)(p:Nat)(ks:List Tr):Except (Nat × Nat) dO:=
 match count p ks with
 | .error x=>.error x
 | .ok n=>if n>S.levels.length then .error (10,p) else .ok (wY n S)
def iF:Str:=[100,101,99,108,97,114,101,45,102,117,110]
def jH:Str:=[97,115,115,101,114,116]
def qM:Str:=[112,117,115,104]
def Ai:Str:=[112,111,112]
def pY:Str:=[99,104,101,99,107,45,115,97,116]
def AZ:Str:=[114,101,115,101,116]
def run (S:dO)(p:Nat)(ks:List Tr):Except (Nat × Nat) (dO × Bool):=
 match ks with
 | []=>.error (4,p)
 | k::rest=>
  if k.text=iF then(declare S p ks).map (λs=>(s,false))
  else if k.text=jH then(assert S p ks).map (λs=>(s,false))
  else if k.text=qM then(push S p ks).map (λs=>(s,false))
  else if k.text=Ai then(pop S p ks).map (λs=>(s,false))
  else if k.text=pY then(if 0<rest.length then .error (4,p) else .ok (S,true))
  else if k.text=AZ then(if 0<rest.length then .error (4,p) else .ok (⟨[],[],[],[]⟩,false))
  else .error (4,k.pos)
def lK (S:dO)(l:Str):Except (Nat × Nat) (dO × Bool):=
 if 400<l.length then .error (1,0)
 else match parse l with
  | .error x=>.error x
  | .ok t=>run S t.pos t.kids
def asks (l:Str):Bool:=
 if 400<l.length then false
 else match parse l with
  | .error _=>false
  | .ok t=>match t.kids with
   | [.word _ w]=>w==pY
   | _=>false
def jc (s:Nat):Str:=if s=1 then zz else if s=2 then Dv else wU
def ig:List Nat->Str
 | []=>[]
 | [s]=>jc s
 | s::ss=>jc s++32::ig ss
def kS (x:Sym):Str:=40::iF++32::x.name++32::40::ig x.args++41::32::jc x.sort++[41,10]
def ji (ts:List Term)(k:Nat):Str:=40::jH++32::gG ts k++[41,10]
def su:Str:=40::qM++[41,10]
def part (S:dO)(a b c d:Nat):Str:=((S.syms.take c).drop a).flatMap kS++((S.held.take d).drop b).flatMap (ji S.terms)
def mI (S:dO):List (Nat × Nat × Nat)->Nat->Nat->Str
 | [],a,b=>part S a b S.syms.length S.held.length
 | l::ls,a,b=>part S a b l.1 l.2.2++su++mI S ls (max a l.1) (max b l.2.2)
def print (S:dO):Str:=mI S S.levels 0 0
variable {s:Str}
theorem CK (h:n<s.length)(a:jh s[n]=true):blank s n=blank s (n+1):=by
 unfold blank;rw[List.drop_eq_getElem_cons h,List.takeWhile_cons_of_pos a];simp only[List.length_cons];exact aR
theorem Iw (h:n<s.length)(a:jh s[n]=false):blank s n=n:=by
 unfold blank;rw[List.drop_eq_getElem_cons h,List.takeWhile_cons_of_neg (by simp[a])];exact aW
theorem KP (h:s.length<=n):blank s n=n:=by
 unfold blank;rw[List.drop_eq_nil_of_le h];exact aW
theorem qE (l:Str)(i:Nat):i<=blank l i:=by unfold blank;omega
theorem Db (p:UInt8->Bool)(l:Str):(l.takeWhile p).length<=l.length:=(List.takeWhile_sublist p).length_le
theorem sK {l:Str}{i:Nat}(h:i<=l.length):blank l i<=l.length:=by
 unfold blank;have:=Db jh (l.drop i);rw[List.length_drop]at this;exact aR
theorem JD (p:UInt8->Bool)(l:Str)(h:(l.takeWhile p).length<l.length):p (l[(l.takeWhile p).length]'h)=false:=by
 induction l with
 | nil=>simp at h
 | cons c l b=>
  by_cases a:p c=true
  ·simp only[List.takeWhile_cons_of_pos a,List.length_cons,List.getElem_cons_succ]at h ⊢;exact b aR
  ·simp only[List.takeWhile_cons_of_neg a,List.length_nil,List.getElem_cons_zero];exact amr
theorem xX (h:blank s n<s.length):jh s[blank s n]=false:=by
 have a:((s.drop n).takeWhile jh).length<(s.drop n).length:=by rw[List.length_drop];unfold blank at h;omega
 have:=JD jh (s.drop n) a;simpa[List.getElem_drop,blank] using this
theorem Ah (h:n<s.length)(a:named s[n]=true):gQ s n=s[n]::gQ s (n+1):=by
 unfold gQ;rw[List.drop_eq_getElem_cons h,List.takeWhile_cons_of_pos a]
theorem Ag (h:n<s.length)(a:named s[n]=false):gQ s n=[]:=by
 unfold gQ;rw[List.drop_eq_getElem_cons h,List.takeWhile_cons_of_neg (by simp[a])]
theorem GM (h:s.length<=n):gQ s n=[]:=by
 unfold gQ;rw[List.drop_eq_nil_of_le h];rfl
theorem zx {l:Str}{i:Nat}(h:i<=l.length):i+(gQ l i).length<=l.length:=by
 unfold gQ;have:=Db named (l.drop i);rw[List.length_drop]at this;exact aR
def ku (l:Str)(i:Nat):Prop:=∃c,l[i]?=some c/\(named c=true\/c=40)
theorem ku.lt (h:ku s n):n<s.length:=by
 obtain⟨c,a,_⟩:=h;exact(aG a).1
theorem tO (h:ku s n)(d:s[n]?≠some 40):n<n+(gQ s n).length/\n+(gQ s n).length<=s.length:=by
 have c:=h.lt;obtain⟨e,b,a⟩:=h;have f:s[n]=e:=by rw[aF c]at b;simpa using b
 rcases a with a|a
 ·have:=Ah c (by rw[f];exact a);refine⟨by rw[this];simp,zx aR⟩
 ·subst a;exact absurd b d
theorem Jw {one:Nat->uB}(g:∀i k j,ku s i->one i=.ok k j->i<j/\j<=s.length) :
 ∀(f i:Nat) (a:List Tr) (t:Tr) (j:Nat),fQ one s n f i a=.ok t j->i<j/\j<=s.length:=by
 intro f
 induction f with
 | zero=>intro i a t j h;simp[fQ]at h
 | succ f l=>
  intro i a t j h;unfold fQ at h;split at h
  ·exact anq
  ·rename_i c b;have v:=(aG b).1;split at h
   ·injection h with m o;exact aR
   ·split at h
    ·exact anq
    ·rename_i w p;split at h
     ·exact anq
     ·rename_i k d q
      have r:ku s i:=⟨c,b,by
       by_cases e:named c=true
       ·exact .inl e
       ·right
        refine Decidable.byContradiction λu=>p ⟨by simpa using e,u⟩⟩
      obtain⟨m,o⟩:=g i k d r q;have:=l _ _ _ _ h;have:=qE s d;exact aR
theorem qN (l:Str):∀(n i:Nat) (t:Tr) (j:Nat),ku l i->tree l n i=.ok t j->i<j/\j<=l.length:=by
 intro n
 induction n with
 | zero=>
  intro i t j a h;unfold tree at h;split at h
  ·exact anq
  ·rename_i b;injection h with d c;subst c;exact tO a b
 | succ n e=>
  intro i t j a h;unfold tree at h;split at h
  ·have:=Jw (λi k j a h=>e i k j a h) _ _ _ _ _ h;have:=qE l (i+1);exact aR
  ·rename_i b;injection h with d c;subst c;exact tO a b
variable {r:List Tr}
theorem Nq {one:Nat->uB}(h:s.length<=k):fQ one s n (m+1) k r=.err 2 k:=by
 unfold fQ;rw[List.getElem?_eq_none h]
theorem Hg {one:Nat->uB}(h:k<s.length)(a:s[k]=41):fQ one s n (m+1) k r=.ok (.list n r) (k+1):=by
 unfold fQ;rw[aF h];simp[a]
theorem Nr {one:Nat->uB}(h:k<s.length)(a:s[k]≠41)(b:named s[k]=false)(c:s[k]≠40):fQ one s n (m+1) k r=.err 2 k:=by
 unfold fQ;rw[aF h];simp[a,b,c]
theorem Np {one:Nat->uB}(h:k<s.length)(b:s[k]≠41)(a:named s[k]=true\/s[k]=40)(c:one k=.err i j):fQ one s n (m+1) k r=.err i j:=by
 unfold fQ;rw[aF h]
 have:¬(named s[k]=false/\s[k]≠40):=by
  rintro ⟨d,e⟩;rcases a with a|a
  ·rw[d]at a;cases a
  ·exact e a
 simp only[b,if_false,if_neg this,c]
theorem Nn {one:Nat->uB}{b:Tr}(h:k<s.length)(c:s[k]≠41)(a:named s[k]=true\/s[k]=40)(d:one k=.ok b i):fQ one s n (m+1) k r=fQ one s n m (blank s i) (r++[b]):=by
 conv=>lhs;unfold fQ
 rw[aF h]
 have:¬(named s[k]=false/\s[k]≠40):=by
  rintro ⟨e,f⟩;rcases a with a|a
  ·rw[e]at a;cases a
  ·exact f a
 simp only[c,if_false,if_neg this,d]
theorem sP (h:s[m]?≠some 40):tree s n m=.ok (.word m (gQ s m)) (m+(gQ s m).length):=by
 cases n<;>(unfold tree;rw[if_neg h])
theorem zB (h:s[n]?=some 40):tree s 0 n=.err 3 n:=by unfold tree;rw[if_pos h]
theorem wu (h:s[m]?=some 40):tree s (n+1) m=fQ (tree s n) s m (s.length+1) (blank s (m+1)) []:=by
 conv=>lhs;unfold tree
 rw[if_pos h]
theorem Ns {one:Nat->uB}(b:∀i e q,one i=.err e q->e=2\/e=3):∀(f i:Nat) (a:List Tr) (e q:Nat),fQ one s n f i a=.err e q->e=2\/e=3:=by
 intro f
 induction f with
 | zero=>intro i a e q h;simp[fQ]at h;omega
 | succ f c=>
  intro i a e q h;unfold fQ at h;split at h
  ·injection h;exact aR
  ·split at h
   ·cases h
   ·split at h
    ·injection h;exact aR
    ·split at h
     ·rename_i j k d;injection h with g l;subst g;exact b i _ _ d
     ·exact c _ _ _ _ h
theorem BO (l:Str):∀(n i e q:Nat),tree l n i=.err e q->e=2\/e=3:=by
 intro n
 induction n with
 | zero=>
  intro i e q h;unfold tree at h;split at h
  ·injection h;exact aR
  ·cases h
 | succ n a=>
  intro i e q h;unfold tree at h;split at h
  ·exact Ns a _ _ _ _ _ h
  ·cases h
structure Item where
 pos:Nat
 word:Str
 fin:Nat
def qX (its:List Item)(at_:Nat):List Item:=its.modify at_ (λit=>{ it with fin:=its.length })
def scan (l:Str):Nat->Nat->List Item->List Nat->Except (Nat × Nat) (List Item)
 | 0,i,_,_=>.error (2,i)
 | f+1,i,its,op=>
  match l[i]? with
  | none=>if op.length>0\/its.length=0 then .error (2,l.length) else .ok its
  | some c=>
   if jh c=true then scan l f (i+1) its op
   else if c=40 then
    if op.length=0/\its.length>0 then .error (2,i)
    else if op.length≥12 then .error (3,i)
    else scan l f (i+1) (its++[⟨i,[],its.length+1⟩]) (op++[its.length])
   else if op.length=0 then .error (2,i)
   else if c=41 then scan l f (i+1) (qX its (op.getLastD 0)) op.dropLast
   else if (gQ l i).length=0 then .error (2,i)
   else scan l f (i+(gQ l i).length) (its++[⟨i,gQ l i,its.length+1⟩]) op
def fC (l:Str)(i:Nat)(its:List Item)(op:List Nat):Except (Nat × Nat) (List Item):=scan l (l.length+1-i) i its op
def read (l:Str):Except (Nat × Nat) (List Item):=fC l 0 [] []
theorem VY (l:Str):∀(f g i:Nat) (a:List Item) (b:List Nat),l.length<f+i->l.length<g+i->i<=l.length->scan l f i a b=scan l g i a b:=by
 intro f
 induction f with
 | zero=>intro g i a b d e h;omega
 | succ f c=>
  intro g i a b d e h;cases g with
  | zero=>omega
  | succ g=>
   unfold scan;cases hc:l[i]? with
   | none=>rfl
   | some j=>
    have k:=(aG hc).1;have m:=zx (l:=l) (i:=i) aR;simp only;split
    ·exact c g (i+1) _ _ aR aR aR
    ·split
     ·split
      ·rfl
      ·split
       ·rfl
       ·exact c g (i+1) _ _ aR aR aR
     ·split
      ·rfl
      ·split
       ·exact c g (i+1) _ _ aR aR aR
       ·split
        ·rfl
        ·exact c g _ _ _ aR aR aR
theorem Cy {a:List Item}(h:n=s.length):fC s n a l=if l.length>0\/a.length=0 then .error (2,s.length) else .ok a:=by
 subst h;unfold fC;rw[show s.length+1-s.length=0+1 by omega];unfold scan;exact aW
theorem oV {its:List Item}{op:List Nat}(h:n<s.length):fC s n its op =
 if jh s[n]=true then fC s (n+1) its op
 else if s[n]=40 then
  if op.length=0/\its.length>0 then .error (2,n)
  else if op.length≥12 then .error (3,n)
  else fC s (n+1) (its++[⟨n,[],its.length+1⟩]) (op++[its.length])
 else if op.length=0 then .error (2,n)
 else if s[n]=41 then fC s (n+1) (qX its (op.getLastD 0)) op.dropLast
 else if (gQ s n).length=0 then .error (2,n)
 else fC s (n+(gQ s n).length) (its++[⟨n,gQ s n,its.length+1⟩]) op:=by
 have a:=zx (l:=s) (i:=n) aR;unfold fC;rw[show s.length+1-n=(s.length-n)+1 by omega]
 conv=>lhs;unfold scan
 rw[aF h];simp only;rw[show s.length+1-(n+1)=s.length-n by omega]
 repeat' split
 all_goals first
  | rfl
  | (rename_i b;exact VY s _ _ _ _ _ aR aR aR)
theorem xR {b:List Item}:∀(n i:Nat),n=s.length-i->i<=s.length->fC s i b l=fC s (blank s i) b l:=by
 intro n
 induction n with
 | zero=>intro i c hi;rw[KP aR]
 | succ n d=>
  intro i c hi
  by_cases a:jh (s[i]' aR)=true
  ·rw[oV aR,if_pos a,d (i+1) aR aR,CK aR a]
  ·rw[Iw aR amr]
mutual
def flat:Tr->Nat->List Item
 | .word p w,b=>[⟨p,w,b+1⟩]
 | .list p ks,b=>⟨p,[],b+1+(gP ks (b+1)).length⟩::gP ks (b+1)
def gP:List Tr->Nat->List Item
 | [],_=>[]
 | k::ks,b=>flat k b++gP ks (b+(flat k b).length)
end
theorem Ul (a:List Tr)(k:Tr):∀b,gP (a++[k]) b=gP a b++flat k (b+(gP a b).length):=by
 induction a with
 | nil=>intro b;simp[gP]
 | cons d a c=>intro b;simp[gP,c,Nat.add_assoc]
theorem Tn {a:Type}(f:a->a)(b:List a)(x:a)(c:List a):(b++x::c).modify b.length f=b++f x::c:=by
 induction b with
 | nil=>simp[List.modify_zero_cons]
 | cons y b d=>simpa[List.modify_succ_cons] using d
theorem Lm (l:Str)(n:Nat)
 (z:∀(i:Nat) (a:List Item) (c:List Nat),ku l i->c.length=12-n->n<=12->0<c.length->
  (∀t j,tree l n i=.ok t j->fC l i a c=fC l j (a++flat t a.length) c)/\(∀e q,tree l n i=.err e q->fC l i a c=.error (e,q)))
 (p:Nat) (a:List Item) (c:List Nat) (F:c.length=11-n) (G:n<=11) :
 ∀(m i:Nat) (b:List Tr),l.length<m+i->i<=l.length->(i<l.length->∀h:i<l.length,jh l[i]=false)->
  (∀t j,fQ (tree l n) l p m i b=.ok t j->fC l i (a++⟨p,[],a.length+1⟩::gP b (a.length+1)) (c++[a.length])=fC l j (a++flat t a.length) c)/\
  (∀e q,fQ (tree l n) l p m i b=.err e q->fC l i (a++⟨p,[],a.length+1⟩::gP b (a.length+1)) (c++[a.length])=.error (e,q)):=by
 intro m
 induction m with
 | zero=>intro i b A B;omega
 | succ m C=>
  intro i b A B D
  by_cases d:i<l.length
  ·have u:=D d d;rw[oV d,if_neg (by rw[u];simp)]
   by_cases f:l[i]=41
   ·rw[Hg d f];refine⟨λt j h=>?_,λe q h=>anq⟩;injection h with g k;subst g k;rw[if_neg (by rw[f];decide),if_neg aW,if_pos f]
    congr 1
    ·simp only[qX,flat,List.getLastD_eq_getLast?,List.getLast?_append,List.getLast?_singleton,Option.some_or,Option.getD_some];rw[Tn];simp only[List.length_append,List.length_cons]
     congr 3
     exact aR
    ·exact aW
   ·by_cases o:named l[i]=true\/l[i]=40
    ·have v:ku l i:=⟨l[i],aF d,o⟩;have s:=z i (a++⟨p,[],a.length+1⟩::gP b (a.length+1)) (c++[a.length]) v aX aR aW;rw[oV d,if_neg (by rw[u];simp)]at s;cases hone:tree l n i with
     | err e q=>
      rw[Np d f o hone];refine⟨λt j h=>anq,λH I h=>?_⟩;injection h with g k;subst g k;exact s.2 _ _ hone
     | ok r j=>
      rw[Nn d f o hone,s.1 r j hone];obtain⟨J,w⟩:=qN l n i r j v hone;rw[xR _ j rfl w]
      have E:(a++⟨p,[],a.length+1⟩::gP b (a.length+1)++flat r (a++⟨p,[],a.length+1⟩::gP b (a.length+1)).length)=a++⟨p,[],a.length+1⟩::gP (b++[r]) (a.length+1):=by
       rw[Ul];simp only[List.length_append,List.length_cons,List.append_assoc,List.cons_append];rw[show a.length+((gP b (a.length+1)).length+1)=a.length+1+(gP b (a.length+1)).length by omega]
      rw[E];have K:=qE l j;exact C (blank l j) (b++[r]) aR (sK w) (λh _=>xX h)
    ·have x:l[i]≠40:=λh=>o (.inr h);have y:named l[i]=false:=by simpa using λh=>o (.inl h)
     rw[Nr d f y x];refine⟨λt j h=>anq,λe q h=>?_⟩;injection h with g k;subst g k;rw[if_neg x,if_neg aW,if_neg f,if_pos (by rw[Ag d y];rfl)]
  ·have:i=l.length:=aR;rw[Nq aR,Cy this];refine⟨λt j h=>anq,λe q h=>?_⟩;injection h with g k
   subst g k;rw[if_pos aW,this]
theorem L8 (h:n<s.length)(a:named s[n]=true):jh s[n]=false/\s[n]≠40/\s[n]≠41:=by
 generalize s[n]=c at a;refine⟨?_,?_,?_⟩
 ·by_cases h:jh c=true
  ·simp only[jh,Bool.or_eq_true,beq_iff_eq]at h;rcases h with h|h<;>(subst h;revert a;decide)
  ·exact anv
 ·intro h;subst h;revert a;decide
 ·intro h;subst h;revert a;decide
theorem h00 {p:Prop}(b:0<n\/(m=0/\p))(h:¬p):¬n=0:=by
 rcases b with a|a
 ·exact aR
 ·exact absurd a.2 h
theorem VC (l:Str):∀(n i:Nat) (d:List Item) (e:List Nat),ku l i->e.length=12-n->n<=12->(0<e.length\/(d.length=0/\l[i]?=some 40))->
 (∀t j,tree l n i=.ok t j->fC l i d e=fC l j (d++flat t d.length) e)/\(∀g q,tree l n i=.err g q->fC l i d e=.error (g,q)):=by
 intro n
 induction n with
 | zero=>
  intro i d e f y z r;have b:=f.lt
  by_cases a:l[i]?=some 40
  ·have k:l[i]=40:=by rw[aF b]at a;simpa using a
   rw[zB a];refine⟨λt j h=>anq,λg q h=>?_⟩;injection h with m o;subst m o;rw[oV b,if_neg (by rw[k];decide),if_pos k,if_neg aR,if_pos aR]
  ·exact apG
 | succ n C=>
  intro i d e f y z r;have b:=f.lt
  by_cases a:l[i]?=some 40
  ·have k:l[i]=40:=by rw[aF b]at a;simpa using a
   rw[wu a,oV b,if_neg (by rw[k];decide),if_pos k,if_neg (by rcases r with h|h<;>omega),if_neg aR];rw[xR _ (i+1) rfl aR];have G:=qE l (i+1);have:=Lm l n (λi d e f D E F=>C i d e f D E (.inl F)) i d e aR aR (l.length+1) (blank l (i+1)) [] aR (sK aR) (λh _=>xX h);simpa[gP] using this
  ·exact apG
theorem SE (l:Str):read l=(match parse l with|.error x=>.error x|.ok t=>.ok (flat t 0)):=by
 unfold read parse;rw[xR _ 0 rfl aR];have o:=sK (l:=l) (i:=0) aR
 by_cases a:l[blank l 0]?=some 40
 ·have b:blank l 0<l.length:=(aG a).1;have d:ku l (blank l 0):=⟨40,a,.inr rfl⟩;obtain⟨h,i⟩:=VC l 12 (blank l 0) [] [] d rfl aR (.inr ⟨rfl,a⟩);rw[if_pos a];cases ht:tree l 12 (blank l 0) with
  | err k p=>simp only;exact i k p ht
  | ok t j=>
   simp only;rw[h t j ht];obtain⟨q,e⟩:=qN l 12 _ t j d ht;rw[xR _ j rfl e];have f:(flat t 0).length≠0:=by cases t<;>simp[flat]
   by_cases c:blank l j<l.length
   ·rw[if_pos c,oV c,if_neg (by rw[xX c];simp)]
    by_cases g:l[blank l j]=40
    ·rw[if_pos g,if_pos ⟨rfl,by simpa using Nat.pos_of_ne_zero f⟩]
    ·rw[if_neg g,if_pos aW]
   ·have:=sK e;rw[if_neg c,Cy aR,if_neg ana];exact aW
 ·rw[if_neg a]
  by_cases b:blank l 0<l.length
  ·have m:l[blank l 0]≠40:=λn=>a (by rw[aF b,n]);rw[oV b,if_neg (by rw[xX b];simp),if_neg m,if_pos aW]
  ·rw[Cy aR,if_pos (.inr rfl),show blank l 0=l.length by omega]
def uu:Nat->Str->Option Str
 | d,[]=>if d=0 then some [] else none
 | d,c::r=>
  if c=40 then uu (d+1) r
  else if c=41 then(if d=0 then some (c::r) else if d=1 then some r else uu (d-1) r)
  else if c=32/\d=0 then some (c::r)
  else uu d r
def Ends (r:Str):Prop:=r=[]\/(∃u,r=32::u)\/(∃u,r=41::u)
def Tok (x:Str):Prop:=(∀d r,1<=d->uu d (x++r)=uu d r)/\(∀r,Ends r->uu 0 (x++r)=some r)
def qY (x:Str):Prop:=∀c∈x,c≠40/\c≠41/\c≠32
theorem Ec (h:qY s)(d:Nat)(r:Str):uu d (s++r)=uu d r:=by
 induction s with
 | nil=>rfl
 | cons c s a=>
  obtain⟨b,e,f⟩:=h c List.mem_cons_self;rw[List.cons_append]
  conv=>lhs;unfold uu
  rw[if_neg b,if_neg e,if_neg (by rintro ⟨g,_⟩;exact f g)];exact a (λc i=>h c (List.mem_cons_of_mem _ i))
theorem aaO (h:Ends s):uu 0 s=some s:=by
 rcases h with rfl|⟨u,rfl⟩|⟨u,rfl⟩<;>simp[uu]
theorem Tok.word (h:qY s):Tok s:=⟨λd r _=>Ec h d r,λr a=>by rw[Ec h,aaO a]⟩
variable {q:List Term}
theorem Y3 (h:∀a∈l,Tok (gG q a))(d:Nat)(b:1<=d)(r:Str):uu d (tail q l++r)=uu d r:=by
 induction l with
 | nil=>simp[tail]
 | cons a l c=>
  have e:=(h a List.mem_cons_self).1 d;simp only[tail,List.flatMap_cons,List.cons_append,List.append_assoc]
  conv=>lhs;unfold uu
  rw[if_neg aY,if_neg aY,if_neg aR,e _ b];exact c (λf g=>h f (List.mem_cons_of_mem _ g))
theorem Tok.list (b:qY s)(h:∀c∈l,Tok (gG q c)):Tok (40::s++tail q l++[41]):=by
 have a:∀d r,uu d (40::s++tail q l++[41]++r)=uu (d+1) (41::r):=by
  intro d r;have:(40::s++tail q l++[41]++r)=40::(s++(tail q l++(41::r))):=aW;rw[this]
  conv=>lhs;unfold uu
  rw[if_pos rfl,Ec b,Y3 h _ aR]
 refine⟨λd r e=>?_,λr _=>?_⟩
 ·rw[a]
  conv=>lhs;unfold uu
  rw[if_neg aY,if_pos rfl,if_neg aR,if_neg aR];rfl
 ·rw[a]
  conv=>lhs;unfold uu
  rw[if_neg aY,if_pos rfl,if_neg aR,if_pos aR]
theorem Tok.written (a:qY s)(h:∀b∈l,Tok (gG q b)):Tok (written q s l):=by
 unfold Doc.written;split
 ·exact Tok.word a
 ·exact Tok.list a h
variable {t:Str}
theorem Tok.head {r a:Str}(c:Tok s)(d:Tok t)(e:Ends r)(f:Ends a)(h:s++r=t++a):s=t/\r=a:=by
 have b:=c.2 r e;rw[h,d.2 a f]at b;injection b with b
 subst b;exact⟨List.append_cancel_right h,rfl⟩
theorem zW (b:List Term)(a:List Nat):Ends (tail b a++[41]):=by
 cases a with
 | nil=>right;right;exact⟨[],rfl⟩
 | cons c a=>right;left;exact⟨_,by simp[tail];rfl⟩
theorem Y2:∀(as a:List Nat),(∀b∈as,Tok (gG q b))->(∀b∈a,Tok (gG q b))->tail q as++[41]=tail q a++[41]->as.map (gG q)=a.map (gG q):=by
 intro as
 induction as with
 | nil=>
  intro a _ _ h;cases a with
  | nil=>rfl
  | cons c a=>simp[tail]at h
 | cons b as g=>
  intro a e f h;cases a with
  | nil=>simp[tail]at h
  | cons c a=>
   have h:gG q b++(tail q as++[41])=gG q c++(tail q a++[41]):=by
    simpa[tail] using h
   obtain⟨i,j⟩:=(e b List.mem_cons_self).head (f c List.mem_cons_self) (zW _ _) (zW _ _) h;simp only[List.map_cons,i,g a (λx d=>e x (List.mem_cons_of_mem _ d)) (λx d=>f x (List.mem_cons_of_mem _ d)) j]
theorem P7 {as:List Nat}(d:qY s)(e:qY t)(f:∀b∈as,Tok (gG q b))(g:∀b∈l,Tok (gG q b))
 (h:written q s as=written q t l):s=t/\as.map (gG q)=l.map (gG q):=by
 unfold written at h
 by_cases c:as.length=0
 ·have i:as=[]:=List.eq_nil_of_length_eq_zero c;rw[if_pos c]at h
  by_cases a:l.length=0
  ·have j:l=[]:=List.eq_nil_of_length_eq_zero a;rw[if_pos a]at h;subst i j;exact⟨h,rfl⟩
  ·rw[if_neg a]at h;exact absurd rfl (d 40 aom).1
 ·rw[if_neg c]at h
  by_cases a:l.length=0
  ·rw[if_pos a]at h;exact absurd rfl (e 40 (by rw[<-h];simp)).1
  ·rw[if_neg a]at h;have h:s++(tail q as++[41])=t++(tail q l++[41]):=anv;obtain⟨k,m⟩:=(Tok.word d).head (Tok.word e) (zW _ _) (zW _ _) h;exact⟨k,Y2 as l f g m⟩
def iR (op:Nat):Str:=
 if op=1 then ou else if op=2 then lZ else if op=3 then [110,111,116] else if op=4 then [97,110,100] else if op=5 then [111,114] else if op=6 then [120,111,114]
 else if op=7 then [61,62] else if op=8 then [61] else if op=9 then [100,105,115,116,105,110,99,116] else if op=10 then [60,61] else if op=11 then [60]
 else if op=12 then [105,116,101] else if op=15 then [45] else if op=16 then [43] else if op=17 then [45] else if op=18 then [42] else []
def nameOf (ss:List Sym)(t:Term):Str:=if t.op=13 then lC ss t.sym else if t.op=14 then t.text else iR t.op
structure vZ (s:Sym):Prop where
 name:forbidden s.name=false
 named:∀c∈s.name,named c=true
 args:∀a∈s.args,a=2\/a=3
 few:s.args.length<=2
 sort:s.sort=1\/s.sort=2\/s.sort=3
inductive Made (ss:List Sym) (ts:List Term) (t:Term):Prop where
 | bool (h:t.op=1\/t.op=2) (ha:t.args=[]) (hs:t.sort=1) (hy:t.sym=0)
 | num (h:t.op=14) (ha:t.args=[]) (hs:t.sort=2) (hy:t.sym=0) (hd:digits t.text=true)
 | app (h:t.op=13) (hy:t.sym<ss.length) (ha:t.args.map (dY ts)=iD ss t.sym) (hs:t.sort=iW ss t.sym)
 | form (f:Form) (hf:f∈forms) (h:t.op=f.op) (hp:iR f.op=f.print) (ha:fits ts f t.args=some t.sort) (hy:t.sym=0) (hm:f.op=18->number ts (t.args.getD 0 0)=true)
structure rU (ss:List Sym)(ts:List Term)(k:Nat)(t:Term):Prop where
 args:∀a∈t.args,a<k
 text:t.text=written ts (nameOf ss t) t.args
 made:Made ss ts t
structure iB (ss:List Sym)(ts:List Term):Prop where
 syms:∀s∈ss,vZ s
 names:∀i j (hi:i<ss.length) (hj:j<ss.length),ss[i].name=ss[j].name->i=j
 few:ss.length<=8
 terms:∀k (h:k<ts.length),rU ss ts k ts[k]
 texts:∀i j (hi:i<ts.length) (hj:j<ts.length),ts[i].text=ts[j].text->i=j
 many:ts.length<=80
 long:∀t∈ts,t.text.length<=800
theorem qY.MS (h:∀c∈s,named c=true):qY s:=by
 intro c a;have:=h c a;refine⟨?_,?_,?_⟩<;>(intro e;subst e;revert this;decide)
theorem kM:∀f∈forms,f.op≠1/\f.op≠2/\f.op≠13/\f.op≠14/\3<=f.op/\f.op<=18:=aY
theorem MR:∀a:Fin 19,(iR a.1).all named=true:=aY
theorem Qw (h:18<n):iR n=[]:=by
 unfold iR
 simp[show ¬n=1 by omega,show ¬n=2 by omega,show ¬n=3 by omega,show ¬n=4 by omega,show ¬n=5 by omega,show ¬n=6 by omega,show ¬n=7 by omega,show ¬n=8 by omega,show ¬n=9 by omega,
  show ¬n=10 by omega,show ¬n=11 by omega,show ¬n=12 by omega,show ¬n=15 by omega,show ¬n=16 by omega,show ¬n=17 by omega,show ¬n=18 by omega]
theorem YP (a:Nat):qY (iR a):=by
 apply qY.MS
 by_cases h:a<19
 ·have:=MR ⟨a,h⟩;exact List.all_eq_true.1 this
 ·rw[Qw aR];intro c b;cases b
theorem L6 (h:digits s=true):qY s:=by
 unfold digits at h;simp only[Bool.and_eq_true]at h;intro c a;have:=List.all_eq_true.1 h.2 c a;unfold digit at this;simp only[Bool.and_eq_true,decide_eq_true_eq]at this;refine⟨?_,?_,?_⟩<;>(intro e;subst e;simp at this)
variable {g:List Sym}
theorem BN {t:Term}(d:∀s∈g,vZ s)(c:Made g q t):qY (nameOf g t):=by
 unfold nameOf;split
 ·rename_i h;cases c with
  | app _ e _ _=>
   unfold lC;rw[aF e];exact qY.MS (d _ aW).named
  | bool a=>omega
  | num a=>omega
  | form f b a=>
   have:=kM f b;exact aR
 ·split
  ·rename_i h;cases c with
   | num _ _ _ _ i=>exact L6 i
   | app a=>omega
   | bool a=>omega
   | form f b a=>
    have:=kM f b;exact aR
  ·exact YP _
theorem uY (h:n<q.length):gG q n=q[n].text:=by unfold gG;rw[aF h]
theorem iB.tok (h:iB g q):∀(k:Nat),k<q.length->Tok (gG q k):=by
 intro k
 induction k using Nat.strongRecOn with
 | _ k e=>
  intro b;rw[uY b];have a:=h.terms k b;rw[a.text];exact Tok.written (BN h.syms a.made) (λc d=>e c (a.args c d) (Nat.lt_trans (a.args c d) b))
end Doc
namespace dC
variable {m n:Nat}{x:List UInt8}
def dv (c:UInt8):Nat:=c.toNat-48
def Dg (l:List UInt8):Prop:=∀c∈l,48<=c.toNat/\c.toNat<=57
def val (l:List UInt8):Nat:=l.foldl (λn c=>10*n+dv c) 0
def rO (n:Nat):UInt8:=UInt8.ofNat (48+n % 10)
theorem zX (n:Nat):(rO n).toNat=48+n % 10:=by
 unfold rO;rw[UInt8.toNat_ofNat'];have:=Nat.mod_lt n (show 0<10 by omega);exact aR
theorem Ij (n:Nat):dv (rO n)=n % 10:=by unfold dv;rw[zX];omega
theorem Il (n:Nat):48<=(rO n).toNat/\(rO n).toNat<=57:=by rw[zX];omega
@[simp] theorem acX:val []=0:=rfl
theorem KI (l:List UInt8)(n:Nat):l.foldl (λn c=>10*n+dv c) n=n*10 ^ l.length+val l:=by
 induction l generalizing n with
 | nil=>simp
 | cons c l a=>
  unfold val;simp only[List.foldl_cons,List.length_cons];rw[a,a (10*0+dv c),Nat.pow_succ]
  have:(10*n+dv c)*10 ^ l.length=n*(10 ^ l.length*10)+dv c*10 ^ l.length:=by
   rw[Nat.add_mul,Nat.mul_comm 10 n,Nat.mul_assoc,Nat.mul_comm 10]
  rw[this];exact aX
theorem p8 (c:UInt8)(l:List UInt8):val (c::l)=dv c*10 ^ l.length+val l:=by
 show List.foldl _ _ _=_;rw[List.foldl_cons,KI];exact aW
theorem jM (l:List UInt8)(c:UInt8):val (l++[c])=10*val l+dv c:=by
 unfold val;rw[List.foldl_append];exact aW
theorem val_append (a b:List UInt8):val (a++b)=val a*10 ^ b.length+val b:=by
 show List.foldl _ _ _=_;rw[List.foldl_append,KI];rfl
theorem rP:Dg []:=by intro c h;cases h
theorem vD {c:UInt8}(h:48<=c.toNat/\c.toNat<=57)(b:Dg x):Dg (c::x):=by
 intro d a;rcases List.mem_cons.1 a with rfl|a
 ·exact h
 ·exact b d a
theorem zY {b:List UInt8}(c:Dg x)(d:Dg b):Dg (x++b):=by
 intro a e;rcases List.mem_append.1 e with h|h
 ·exact c a h
 ·exact d a h
theorem yx {c:UInt8}(h:Dg (c::x)):Dg x:=λa b=>h a (List.mem_cons_of_mem _ b)
theorem JJ {c:UInt8}(h:Dg (c::x)):48<=c.toNat/\c.toNat<=57:=h c List.mem_cons_self
theorem adJ (h:Dg x)(k:Nat):Dg (x.take k):=λa b=>h a (List.mem_of_mem_take b)
theorem CE {c:UInt8}(h:48<=c.toNat/\c.toNat<=57):dv c<=9:=by unfold dv;omega
theorem kQ (h:Dg x):val x<10 ^ x.length:=by
 induction x with
 | nil=>simp
 | cons c x a=>
  rw[p8,List.length_cons,Nat.pow_succ];have b:=CE (JJ h);have d:=a (yx h);have e:dv c*10 ^ x.length<=9*10 ^ x.length:=Nat.mul_le_mul_right _ b;exact aR
def D (n:Nat):List UInt8:=if _h:n=0 then [] else D (n / 10)++[rO n]
termination_by n
decreasing_by omega
theorem jL:D 0=[]:=by rw[D];simp
theorem yg (h:0<n):D n=D (n / 10)++[rO n]:=by rw[D];simp;intro a;omega
theorem lQ (n:Nat):val (D n)=n:=by
 induction n using Nat.strongRecOn with
 | ind n a=>
  by_cases h:n=0
  ·subst h;rw[jL];rfl
  ·rw[yg aR,jM,a (n / 10) aR,Ij];exact aR
theorem rC (n:Nat):Dg (D n):=by
 induction n using Nat.strongRecOn with
 | ind n a=>
  by_cases h:n=0
  ·subst h;rw[jL];exact rP
  ·rw[yg aR];exact zY (a (n / 10) aR) (vD (Il n) rP)
def BC (l:List UInt8):Prop:=l.head?≠some 48
theorem Xd {b:List UInt8}(h:x≠[]):(x++b).head?=x.head?:=by cases x with
 | nil=>exact absurd rfl h
 | cons a x=>rfl
theorem Da:D n=[]↔n=0:=by
 constructor
 ·intro h
  by_cases a:n=0
  ·exact a
  ·rw[yg aR]at h;exact anq
 ·rintro rfl;exact jL
theorem JZ (a:0<n)(h:n<10):D n=[rO n]:=by
 rw[yg a,show n / 10=0 by omega,jL];rfl
theorem ll {a b:UInt8}(h:a.toNat=b.toNat):a=b:=UInt8.toNat_inj.1 h
theorem afJ {c:UInt8}(h:48<=c.toNat/\c.toNat<=57):rO (dv c)=c:=by
 apply ll;rw[zX];unfold dv;exact aR
theorem adI (n:Nat)(c:UInt8)(h:48<=c.toNat/\c.toNat<=57):rO (10*n+dv c)=c:=by
 apply ll;rw[zX];unfold dv;exact aR
theorem CB (j:Dg x)(a:BC x):x=D (val x):=by
 suffices H:∀n,∀x:List UInt8,x.length=n->Dg x->BC x->x=D (val x) from H _ x rfl j a
 intro n
 induction n with
 | zero=>intro x b _ _;have:x=[]:=List.length_eq_zero_iff.1 b;subst this;simp[jL]
 | succ n k=>
  intro x b h a;have i:x≠[]:=λe=>by subst e;simp at b
  obtain⟨p,c,rfl⟩:∃p c,x=p++[c]:=⟨x.dropLast,x.getLast i,(List.dropLast_concat_getLast i).symm⟩;have d:48<=c.toNat/\c.toNat<=57:=h c aW;have l:Dg p:=λm o=>h m (by simp[o]);rw[jM]
  by_cases f:p=[]
  ·subst f
   have:0<dv c:=by
    simp[BC]at a;unfold dv;rcases Nat.lt_or_ge 48 c.toNat with q|q
    ·exact aR
    ·exact absurd (ll (show c.toNat=(48:UInt8).toNat by rw[show(48:UInt8).toNat=48 from rfl];omega)) a
   rw[yg aX];simp only[acX,Nat.mul_zero,Nat.zero_add];rw[show dv c / 10=0 by have:=CE d;omega,jL,afJ d]
  ·have r:BC p:=by
    unfold BC at *
    rwa [Xd f]at a
   have e:=k p (by simp at b;exact b) l r
   have s:0<val p:=by
    rcases Nat.eq_zero_or_pos (val p) with g|g
    ·rw[g,jL]at e;exact absurd e f
    ·exact g
   rw[yg aR,adI _ _ d,show(10*val p+dv c) / 10=val p by have:=CE d;omega,<-e]
def plain:List UInt8->List UInt8
 | []=>[]
 | c::l=>if c=48 then plain l else c::l
theorem Wm (l:List UInt8):BC (plain l):=by
 induction l with
 | nil=>simp[plain,BC]
 | cons c l a=>
  unfold plain;split
  ·exact a
  ·simp only[BC,List.head?_cons,ne_eq,Option.some.injEq];assumption
theorem MI (h:Dg x):Dg (plain x):=by
 induction x with
 | nil=>exact h
 | cons c x a=>
  unfold plain;split
  ·exact a (yx h)
  ·exact h
theorem DD (l:List UInt8):val (plain l)=val l:=by
 induction l with
 | nil=>rfl
 | cons c l a=>
  unfold plain;split
  ·rename_i h;subst h;rw[a,p8];simp[dv,show(48:UInt8).toNat=48 from rfl]
  ·rfl
theorem yH (h:Dg x):plain x=D (val x):=by
 rw[CB (MI h) (Wm x),DD]
theorem DF (l:List UInt8):(plain l).length<=l.length:=by
 induction l with
 | nil=>simp[plain]
 | cons c l a=>
  unfold plain;split
  ·exact aX
  ·exact aW
def at_ (l:List UInt8)(k:Nat):Nat:=if k<l.length then dv (l.getD (l.length-1-k) 0) else 0
theorem LV (h:Dg x)(k:Nat):at_ x k<=9:=by
 unfold at_;split
 ·rw[List.getD_eq_getElem?_getD,aF aR];exact CE (h _ aW)
 ·exact aR
theorem at_eq (h:Dg x)(k:Nat):at_ x k=val x / 10 ^ k % 10:=by
 suffices H:∀k,∀x:List UInt8,Dg x->at_ x k=val x / 10 ^ k % 10 from H k x h
 intro k
 induction k with
 | zero=>
  intro x b
  by_cases a:x=[]
  ·subst a;simp[at_]
  ·obtain⟨p,c,rfl⟩:∃p c,x=p++[c]:=⟨x.dropLast,x.getLast a,(List.dropLast_concat_getLast a).symm⟩;have d:48<=c.toNat/\c.toNat<=57:=b c aW;rw[jM];simp[at_];have:=CE d;exact aR
 | succ k f=>
  intro x b
  by_cases a:x=[]
  ·subst a;simp[at_]
  ·obtain⟨p,c,rfl⟩:∃p c,x=p++[c]:=⟨x.dropLast,x.getLast a,(List.dropLast_concat_getLast a).symm⟩;have d:48<=c.toNat/\c.toNat<=57:=b c aW;have g:Dg p:=λi j=>b i (by simp[j])
   have l:at_ (p++[c]) (k+1)=at_ p k:=by
    unfold at_;simp only[List.length_append,List.length_cons,List.length_nil]
    by_cases e:k<p.length
    ·rw[if_pos aR,if_pos e];rw[List.getD_eq_getElem?_getD,List.getD_eq_getElem?_getD,List.getElem?_append_left aR];rw[show p.length+(0+1)-1-(k+1)=p.length-1-k by omega]
    ·rw[if_neg aR,if_neg e]
   rw[l,f p g,jM,Nat.pow_succ,Nat.mul_comm (10 ^ k) 10,<-Nat.div_div_eq_div_mul];rw[show(10*val p+dv c) / 10=val p by have:=CE d;omega]
theorem nD (h:n<10 ^ m):(D n).length<=m:=by
 induction m generalizing n with
 | zero=>rw[show n=0 by simp at h;omega,jL];simp
 | succ m a=>
  by_cases b:n=0
  ·subst b;rw[jL];exact aW
  ·rw[yg aR];have:=a (n:=n / 10) (by rw[Nat.pow_succ]at h;omega);exact aX
theorem C9 (n:Nat):n<10 ^ (D n).length:=by have:=kQ (rC n);rwa [lQ]at this
theorem akq (h:0<n):10 ^ ((D n).length-1)<=n:=by
 induction n using Nat.strongRecOn with
 | ind n a=>
  by_cases b:n<10
  ·rw[JZ h b];exact aX
  ·rw[yg h];have:=a (n / 10) aR aR
   have c:(D (n / 10)).length≠0:=λe=>by
    have:=Da.1 (List.length_eq_zero_iff.1 e);exact aR
   simp only[List.length_append,List.length_cons,List.length_nil];rw[show(D (n / 10)).length+(0+1)-1=(D (n / 10)).length-1+1 by omega,Nat.pow_succ];exact aR
theorem mR (h:n<=m):(D n).length<=(D m).length:=nD (Nat.lt_of_le_of_lt h (C9 m))
theorem Le (a b:Nat):(D (a+b)).length<=max (D a).length (D b).length+1:=by
 apply nD;have c:=C9 a;have d:=C9 b;have e:10 ^ (D a).length<=10 ^ (max (D a).length (D b).length):=Nat.pow_le_pow_right aR aR;have f:10 ^ (D b).length<=10 ^ (max (D a).length (D b).length):=Nat.pow_le_pow_right aR aR;rw[Nat.pow_succ];exact aR
theorem Af (a b:Nat):(D (a*b)).length<=(D a).length+(D b).length:=by
 apply nD;have c:=C9 a;have e:=C9 b;rw[Nat.pow_add]
 by_cases d:b=0
 ·subst d;rw[Nat.mul_zero];exact Nat.mul_pos (Nat.pow_pos aR) (Nat.pow_pos aR)
 ·exact Nat.mul_lt_mul_of_lt_of_le c aR aR
end dC
namespace Doc
variable {G g:List Sym}{S T:dO}{l:List Nat}{m n:Nat}{p q:List Term}{r:List Tr}{s t:Str}
theorem J9 (h:n<q.length):gG (q++p) n=gG q n:=by simp[gG,List.getElem?_append_left h]
theorem wB (h:n<q.length):dY (q++p) n=dY q n:=by simp[dY,List.getElem?_append_left h]
theorem Q0 (h:n<q.length):qa (q++p) n=qa q n:=by simp[qa,List.getElem?_append_left h]
theorem VJ (h:n<q.length):qO (q++p) n=qO q n:=by simp[qO,List.getElem?_append_left h]
theorem Y4 (h:∀a∈l,a<q.length):tail (q++p) l=tail q l:=by
 induction l with
 | nil=>rfl
 | cons a l b=>
  have:=b (λc d=>h c (List.mem_cons_of_mem _ d));simp only[tail,List.flatMap_cons,J9 (h a List.mem_cons_self)]at this ⊢;rw[this]
theorem P8 (h:∀a∈l,a<q.length):written (q++p) s l=written q s l:=by
 unfold written;rw[Y4 h]
theorem nX:∀f∈forms,f.from_<f.least/\f.least<=3/\f.most<=4/\f.args<=2:=aY
theorem Ib:∀f∈forms,iR f.op=f.print/\f.print.length=f.word.length/\f.word≠[]:=aY
theorem yS:∀f∈forms,(f.word=[62,61]\/f.word=[62]\/f.op=18)->f.least=2/\f.most=2/\f.args=2/\f.from_=0/\f.op≠9/\f.op≠12/\f.sort≠0:=aY
theorem qC {a:Type}{l:List a}{d:a}(h:n<l.length):l.getD n d∈l:=by
 rw[List.getD_eq_getElem?_getD,aF h];exact aW
theorem all_congr {b:Type}{l:List b}{p q:b->Bool}(h:∀a∈l,p a=q a):l.all p=l.all q:=by
 induction l with
 | nil=>rfl
 | cons a l c=>simp only[List.all_cons];rw[h a List.mem_cons_self,c (λd e=>h d (List.mem_cons_of_mem _ e))]
theorem aaM {f:Form}(d:f∈forms){a:List Nat}(h:∀b∈a,b<q.length):fits (q++p) f a=fits q f a:=by
 obtain⟨i,j,k,_⟩:=nX f d;unfold fits
 by_cases c:a.length<f.least\/a.length>f.most
 ·rw[if_pos c,if_pos c]
 ·have e:f.want (q++p) a=f.want q a:=by
   unfold Form.want;rw[wB (h _ (qC aR))]
  rw[if_neg c,if_neg c,wB (h _ (qC aR)),e]
  have:(a.drop f.from_).all (λb=>dY (q++p) b==f.want q a)=(a.drop f.from_).all (λb=>dY q b==f.want q a):=
   all_congr (λb g=>by rw[wB (h b (List.drop_subset _ _ g))])
  rw[this]
theorem Tg (e:∀n (h:n<q.length),rU g q n q[n])(h:n<q.length):number (q++p) n=number q n:=by
 unfold number;rw[Q0 h,VJ h]
 by_cases a:qa q n=15
 ·rw[if_pos a,if_pos a];have d:=e n h;have:qO q n=q[n].args:=by simp[qO,aF h]
  rw[this];have l:q[n].op=15:=by simpa[qa,aF h] using a
  have i:0<q[n].args.length:=by
   cases d.made with
   | bool b=>omega
   | num b=>omega
   | app b=>omega
   | form f j b _ c _ _=>
    have:=nX f j;unfold fits at c
    by_cases k:q[n].args.length<f.least\/q[n].args.length>f.most
    ·rw[if_pos k]at c;cases c
    ·exact aR
  rw[Q0 (Nat.lt_trans (d.args _ (qC i)) h)]
 ·rw[if_neg a,if_neg a]
theorem jO {f:Form}(h:fits q f l=some n):f.least<=l.length/\l.length<=f.most:=by
 unfold fits at h
 by_cases a:l.length<f.least\/l.length>f.most
 ·rw[if_pos a]at h;cases h
 ·exact aR
theorem Ha {a c:Type}{l:List a}{p q:a->c}(h:∀b∈l,p b=q b):l.map p=l.map q:=List.map_congr_left h
theorem Made.app' {t:Term}(l:∀k (i:k<q.length),rU g q k q[k])(m:Made g q t)(e:∀a∈t.args,a<q.length):Made g (q++p) t:=by
 cases m with
 | bool a b c d=>exact .bool a b c d
 | num a b c d f=>exact .num a b c d f
 | app a b c d=>exact .app a b (by rw[<-c];exact Ha (λx n=>wB (e x n))) d
 | form j h a b c d f=>
  refine .form j h a b (by rw[aaM h e];exact c) d (λi=>?_);have o:=nX j h;have r:=jO c;rw[Tg l (e _ (qC aR))];exact f i
theorem rU.app {t:Term}(c:∀n (h:n<q.length),rU g q n q[n])(h:rU g q n t)(d:n<=q.length):rU g (q++p) n t:=by
 have a:∀b∈t.args,b<q.length:=λb a=>Nat.lt_of_lt_of_le (h.args b a) d;exact⟨h.args,by rw[P8 a];exact h.text,h.made.app' c a⟩
theorem SK (h:place q s=some n):∃a:n<q.length,q[n].text=s:=by
 unfold place at h;exact arb
theorem SL (h:place q s=none):∀t∈q,t.text≠s:=by
 unfold place at h;rw[List.findIdx?_eq_none_iff]at h;intro t a;simpa using h t a
structure Jf (ss:List Sym)(ts:List Term)(r:List Term × Nat)(n:Nat):Prop where
 wf:iB ss r.1
 ext:∃ex,r.1=ts++ex
 lt:r.2<r.1.length
 long:(gG r.1 r.2).length<=n
theorem ym {t:Term}{r:List Term × Nat}(a:iB g q)(p:rU g q q.length t){n:Nat}(l:t.text.length<=n)(w:n<=800)(h:note q t=.ok r):Jf g q r n:=by
 unfold note at h;cases hp:place q t.text with
 | some k=>
  rw[hp]at h;simp only at h;injection h with h;subst h;obtain⟨d,s⟩:=SK hp;exact⟨a,⟨[],aW⟩,d,by simp only;rw[uY d,s];exact l⟩
 | none=>
  rw[hp]at h;simp only at h;split at h
  ·cases h
  ·rename_i x;injection h with h;subst h;have m:=SL hp;refine⟨⟨a.syms,a.names,a.few,?_,?_,?_,?_⟩,⟨[t],rfl⟩,aW,?_⟩
   ·intro k d;simp only[List.length_append,List.length_cons,List.length_nil]at d
    by_cases o:k<q.length
    ·rw[List.getElem_append_left o];exact(a.terms k o).app a.terms aR
    ·have:k=q.length:=aR;subst this;rw[List.getElem_append_right aR];simpa using p.app a.terms aR
   ·intro i j hi u e;simp only[List.length_append,List.length_cons,List.length_nil]at hi u
    by_cases f:i<q.length
    ·by_cases b:j<q.length
     ·rw[List.getElem_append_left f,List.getElem_append_left b]at e;exact a.texts i j f b e
     ·rw[List.getElem_append_left f,List.getElem_append_right aR]at e;exact absurd (by simpa[show j-q.length=0 by omega] using e) (m _ (List.getElem_mem f))
    ·by_cases b:j<q.length
     ·rw[List.getElem_append_left b,List.getElem_append_right aR]at e;exact absurd (by simpa[show i-q.length=0 by omega] using e.symm) (m _ (List.getElem_mem b))
     ·exact aR
   ·have:=a.many;simp only[List.length_append,List.length_cons,List.length_nil];exact aR
   ·intro v c;rcases List.mem_append.1 c with c|c
    ·exact a.long v c
    ·rw[List.mem_singleton.1 c];exact aR
   ·simp only[gG];simpa using l
theorem nK {ss:List Sym}{w:Str}{s:Nat}(h:gD ss w=some s):∃c:s<ss.length,ss[s].name=w:=by
 unfold gD at h;exact arb
theorem Om (h:gD g s=none):∀a∈g,a.name≠s:=by
 unfold gD at h;rw[List.findIdx?_eq_none_iff]at h;intro t b;simpa using h t b
theorem qP (h:n<g.length):lC g n=g[n].name:=by unfold lC;rw[aF h]
theorem adw {r:List Term × Nat}(c:iB g q){n:Nat}(d:s.length<=n)(e:n<=800)(h:leaf g q s=.ok r):Jf g q r n:=by
 unfold leaf at h;split at h
 ·rename_i b;exact ym c ⟨aok,by simp[written,nameOf,iR,b],.bool (.inl rfl) rfl rfl rfl⟩ d e h
 ·split at h
  ·rename_i b;exact ym c ⟨aok,by simp[written,nameOf,iR,b],.bool (.inr rfl) rfl rfl rfl⟩ d e h
  ·split at h
   ·rename_i b;exact ym c ⟨aok,by simp[written,nameOf],.num rfl rfl rfl rfl b⟩ d e h
   ·split at h
    ·cases h
    ·rename_i l j;obtain⟨i,k⟩:=nK j;split at h
     ·cases h
     ·rename_i m;refine ym c ⟨aok,?_,.app rfl i ?_ rfl⟩ d e h
      ·simp[written,nameOf,qP i,k]
      ·simp only[List.map_nil];exact(List.eq_nil_of_length_eq_zero aR).symm
theorem Y1 (b:List Term)(a:List Nat):(tail b a).length=(a.map (λc=>(gG b c).length+1)).sum:=by
 induction a with
 | nil=>rfl
 | cons c a d=>simp only[tail,List.flatMap_cons,List.length_append,List.length_cons,List.map_cons,List.sum_cons]at d ⊢;omega
theorem Fe (b:List Term)(n:Str)(a:List Nat)(h:a.length≠0):(written b n a).length=n.length+2+(a.map (λc=>(gG b c).length+1)).sum:=by
 unfold written;rw[if_neg h];simp only[List.length_append,List.length_cons,List.length_nil,Y1];exact aR
theorem UE {r:List Term × Nat}(b:iB g q)(c:m<g.length)(d:∀a∈l,a<q.length){n:Nat}
 (e:(lC g m).length+2+(l.map (λa=>(gG q a).length+1)).sum<=n) (f:n<=800) (h:applied g q m l=.ok r):Jf g q r n:=by
 unfold applied at h;split at h
 ·cases h
 ·rename_i j;split at h
  ·cases h
  ·rename_i i;refine ym b ⟨d,by simp[nameOf],.app rfl c (by simpa using i) rfl⟩ ?_ f h;simp only;rw[Fe _ _ _ aR];exact e
theorem BR {args:List Nat}(h:args.length=2):∃a b,args=[a,b]/\swap args=[b,a]:=by
 match args,h with
 | [a,b],_=>exact⟨a,b,rfl,rfl⟩
theorem KJ {f:Form}(b:f∈forms)(c:f.word=[62,61]\/f.word=[62]\/f.op=18){a:List Nat}{s:Nat}(h:fits q f a=some s):fits q f (swap a)=some s:=by
 obtain⟨d,e,g,i,j,k,l⟩:=yS f b c;have n:=jO h;obtain⟨o,p,rfl,m⟩:=BR (args:=a) aR;rw[m];unfold fits Form.want at h ⊢;simp only[d,e,g,i,j,k,l,List.length_cons,List.length_nil,List.drop_zero,List.all_cons,List.all_nil,Bool.and_true]at h ⊢;rw[Bool.and_comm];exact h
theorem Fh {f:Form}(e:f∈forms)(j:f.word=s){b l:List Nat}{g:Nat}(h:fits q f b=some g)(a:turned q s f b=some l) :
 fits q f l=some g/\(l=b\/(l=swap b/\b.length=2))/\(f.op=18->number q (l.getD 0 0)=true):=by
 unfold turned at a;split at a
 ·rename_i c;obtain⟨k,m,n,o,p,r,t⟩:=yS f e (.inr (.inr c));have u:=jO h;split at a
  ·rename_i d;injection a with a;subst a;exact⟨h,.inl rfl,λ_=>d⟩
  ·split at a
   ·rename_i d;injection a with a;subst a;refine⟨KJ e (.inr (.inr c)) h,.inr ⟨rfl,aR⟩,λ_=>?_⟩;simpa[swap] using d
   ·cases a
 ·rename_i c;split at a
  ·rename_i d;injection a with a;subst a;have i:f.word=[62,61]\/f.word=[62]\/f.op=18:=by rw[j];rcases d with h|h;exact .inl h;exact .inr (.inl h)
   obtain⟨k,m,n,o,p,r,t⟩:=yS f e i;have u:=jO h;exact⟨KJ e i h,.inr ⟨rfl,aR⟩,λh=>absurd h c⟩
  ·injection a with a;subst a;exact⟨h,.inl rfl,λh=>absurd h c⟩
theorem SY {r:List Term × Nat}(v:iB g q)(j:∀a∈l,a<q.length){n:Nat}
 (w:s.length+2+(l.map (λa=>(gG q a).length+1)).sum<=n) (x:n<=800):∀(b:List Form),(∀f∈b,f∈forms)->jY q s l b=.ok r->Jf g q r n:=by
 intro b
 induction b with
 | nil=>intro _ h;cases h
 | cons f b d=>
  intro k h;have c:=k f List.mem_cons_self;have d:=d (λy z=>k y (List.mem_cons_of_mem _ z));unfold jY at h;split at h
  ·rename_i m;split at h
   ·exact d h
   ·rename_i J A;split at h
    ·cases h
    ·rename_i o B;obtain⟨p,t,C⟩:=Fh c m A B;obtain⟨u,D,K⟩:=Ib f c
     have E:∀a∈o,a<q.length:=by
      rcases t with rfl|⟨rfl,e⟩
      ·exact j
      ·obtain⟨a,F,rfl,i⟩:=BR e;rw[i];intro G H;exact j G (by simpa[or_comm] using H)
     have I:(o.map (λa=>(gG q a).length+1)).sum=(l.map (λa=>(gG q a).length+1)).sum:=by
      rcases t with rfl|⟨rfl,e⟩
      ·rfl
      ·obtain⟨a,F,rfl,i⟩:=BR e;rw[i];exact aX
     have L:=jO p;have M:=nX f c;have N:=kM f c;refine ym v ⟨E,?_,.form f c rfl u p rfl C⟩ ?_ x h
     ·simp only[nameOf];rw[if_neg aR,if_neg aR,u]
     ·simp only;rw[Fe _ _ _ aR,I,D,m];exact w
  ·exact d h
mutual
def Tr.ok:Tr->Prop
 | .word _ w=>w≠[]/\∀c∈w,named c=true
 | .list _ ks=>oks ks
def oks:List Tr->Prop
 | []=>True
 | k::ks=>k.ok/\oks ks
end
mutual
def Tr.width:Tr->Nat
 | .word _ w=>w.length
 | .list _ ks=>1+fE ks
def fE:List Tr->Nat
 | []=>0
 | k::ks=>k.width+1+fE ks
end
structure akp (ss:List Sym)(ts:List Term)(acc:List Nat)(r:List Term × List Nat)(n:Nat):Prop where
 wf:iB ss r.1
 ext:∃ex,r.1=ts++ex
 lt:∀a∈r.2,a<r.1.length
 long:(r.2.map (λa=>(gG r.1 a).length+1)).sum<=(acc.map (λa=>(gG ts a).length+1)).sum+n
theorem FJ {one:Tr->List Term->Except (Nat × Nat) (List Term × Nat)}
 (m:∀(t:Tr) (a:List Term) (r:List Term × Nat),iB g a->t.ok->t.width<=800->one t a=.ok r->Jf g a r t.width) :
 ∀(d:List Tr) (a:List Term) (c:List Nat) (r:List Term × List Nat),iB g a->oks d->fE d<=800->(∀b∈c,b<a.length)->iN one d a c=.ok r->akp g a c r (fE d):=by
 intro d
 induction d with
 | nil=>
  intro a c r j _ _ f h;injection h with h;subst h;exact⟨j,⟨[],aW⟩,f,by simp[fE]⟩
 | cons n d o=>
  intro a c r j k p f h;unfold iN at h;simp only[oks]at k;simp only[fE]at p;split at h
  ·cases h
  ·rename_i q s;have i:=m n a q j k.1 aR s;obtain⟨u,l⟩:=i.ext
   have v:∀b∈c++[q.2],b<q.1.length:=by
    intro b e;rcases List.mem_append.1 e with e|e
    ·have:=f b e;rw[l];exact aX
    ·rw[List.mem_singleton.1 e];exact i.lt
   have:=o q.1 (c++[q.2]) r i.wf k.2 aR v h;obtain⟨w,x⟩:=this.ext;refine⟨this.wf,⟨u++w,by rw[x,l];simp⟩,this.lt,?_⟩;have y:=this.long;have A:=i.long
   have z:(c.map (λb=>(gG q.1 b).length+1)).sum=(c.map (λb=>(gG a b).length+1)).sum:=by
    congr 1
    exact Ha (λb e=>by rw[l,J9 (f b e)])
   simp only[List.map_append,List.sum_append,List.map_cons,List.map_nil,List.sum_cons,List.sum_nil,z]at y;simp only[fE];exact aR
theorem Jf.trans {r:List Term × Nat}(h:Jf g p r n)(b:∃a,p=q++a):Jf g q r n:=by
 obtain⟨a,rfl⟩:=b;obtain⟨c,d⟩:=h.ext;exact⟨h.wf,⟨a++c,by rw[d];simp⟩,h.lt,h.long⟩
theorem Kl {x:Except Nat (List Term × Nat)}{r:List Term × Nat}(h:je n x=.ok r):x=.ok r:=by
 cases x with
 | error e=>cases h
 | ok a=>simpa[je] using h
theorem uW (e:List Sym):∀(f:Nat) (t:Tr) (b:List Term) (r:List Term × Nat),iB e b->t.ok->t.width<=800->term e f t b=.ok r->Jf e b r t.width:=by
 intro f
 induction f with
 | zero=>intro t b r _ _ _ h;cases h
 | succ f l=>
  intro t b r i c d h
  match t,c,d,h with
  | .word p w,c,d,h=>
   unfold term at h;have:=adw i (n:=w.length) ae (by simpa[Tr.width] using d) (Kl h);simpa[Tr.width] using this
  | .list p [],_,_,h=>unfold term at h;cases h
  | .list p (.list q x::rest),_,_,h=>unfold term at h;cases h
  | .list p (.word q w::rest),c,d,h=>
   unfold term at h;simp only[Tr.ok,oks]at c;simp only[Tr.width,fE]at d;split at h
   ·cases h
   ·rename_i m;split at h
    ·cases h
    ·rename_i j g;have a:=FJ l rest b [] j i c.2 aR (by intro j g;cases g) g;have h:=Kl h;have n:=a.long;simp only[List.map_nil,List.sum_nil,Nat.zero_add]at n;simp only[Tr.width,fE];split at h
     ·exact(SY a.wf a.lt (n:=1+(w.length+1+fE rest)) aR aR forms (λv o=>o) h).trans a.ext
     ·rename_i s;cases hs:gD e w with
      | none=>exact absurd ⟨by simpa using s,hs⟩ m
      | some y=>
       obtain⟨k,u⟩:=nK hs;rw[hs]at h;exact(UE a.wf k a.lt (n:=1+(w.length+1+fE rest)) (by rw[qP k,u];omega) aR h).trans a.ext
theorem ZL {k:Tr}(h:oks r)(a:k.ok):oks (r++[k]):=by
 induction r with
 | nil=>simp[oks,a]
 | cons c r b=>simp only[oks,List.cons_append]at h ⊢;exact⟨h.1,b h.2⟩
theorem P9 (a:List Tr)(k:Tr):fE (a++[k])=fE a+k.width+1:=by
 induction a with
 | nil=>simp[fE]
 | cons b a c=>simp only[fE,List.cons_append];omega
theorem VQ {c:UInt8}(b:s[n]?=some c)(d:¬(named c=false/\c≠40)):ku s n:=⟨c,b,by
 by_cases a:named c=true
 ·exact .inl a
 ·right
  refine Decidable.byContradiction λe=>d ⟨amr,e⟩⟩
theorem QC {one:Nat->uB}(g:∀i k j,ku s i->one i=.ok k j->(i<j/\j<=s.length)/\k.ok/\k.width+1<=2*(j-i)) :
 ∀(f i:Nat) (a:List Tr) (t:Tr) (j:Nat),oks a->n<i->fE a<=2*(i-n)->fQ one s n f i a=.ok t j->t.ok/\t.width+1<=2*(j-n):=by
 intro f
 induction f with
 | zero=>intro i a t j _ _ _ h;simp[fQ]at h
 | succ f l=>
  intro i a t j b r u h;unfold fQ at h;split at h
  ·exact anq
  ·rename_i v m;split at h
   ·injection h with c d;subst c d;refine⟨by simpa[Tr.ok] using b,?_⟩;simp only[Tr.width];exact aR
   ·split at h
    ·exact anq
    ·rename_i w o;split at h
     ·exact anq
     ·rename_i k e p;obtain⟨⟨c,d⟩,q,x⟩:=g i k e (VQ m o) p;have y:=qE s e;refine l _ _ _ _ (ZL b q) aR ?_ h;rw[P9];exact aR
theorem QX (h:ku s n)(c:s[n]?≠some 40):Tr.ok (.word n (gQ s n))/\Tr.width (.word n (gQ s n))+1<=2*(n+(gQ s n).length-n):=by
 have:=tO h c;simp only[Tr.ok,Tr.width];refine⟨⟨?_,?_⟩,aR⟩
 ·intro e;rw[e]at this;simp at this
 ·intro g a;unfold gQ at a
  revert a
  generalize s.drop n=u
  induction u with
  | nil=>intro a;simp at a
  | cons d u f=>
   intro a
   by_cases b:named d=true
   ·rw[List.takeWhile_cons_of_pos b]at a;rcases List.mem_cons.1 a with rfl|a
    ·exact b
    ·exact f a
   ·rw[List.takeWhile_cons_of_neg b]at a;cases a
theorem acY (l:Str):∀(n i:Nat) (t:Tr) (j:Nat),ku l i->tree l n i=.ok t j->t.ok/\t.width+1<=2*(j-i):=by
 intro n
 induction n with
 | zero=>
  intro i t j a h;unfold tree at h;split at h
  ·exact anq
  ·rename_i b;injection h with c d;subst c d;exact QX a b
 | succ n e=>
  intro i t j a h;unfold tree at h;split at h
  ·have f:=qE l (i+1);exact QC (λi k j a h=>⟨qN l n i k j a h,e i k j a h⟩) _ _ _ _ _ (by simp[oks]) aR (by simp[fE]) h
  ·rename_i b;injection h with c d;subst c d;exact QX a b
theorem Lp {one:Nat->uB}:∀(f i:Nat) (a:List Tr) (t:Tr) (j:Nat),fQ one s n f i a=.ok t j->∃b,t=.list n b:=by
 intro f
 induction f with
 | zero=>intro i a t j h;simp[fQ]at h
 | succ f c=>
  intro i a t j h;unfold fQ at h;split at h
  ·exact anq
  ·split at h
   ·injection h with d e;exact⟨a,d.symm⟩
   ·split at h
    ·exact anq
    ·split at h
     ·exact anq
     ·exact c _ _ _ _ h
theorem Ca {l:Str}{t:Tr}(h:parse l=.ok t):∃p a,t=.list p a/\oks a/\fE a<=2*l.length:=by
 unfold parse at h;split at h
 ·rename_i c;split at h
  ·cases h
  ·rename_i i j b;split at h
   ·cases h
   ·injection h with h;subst h;have d:ku l (blank l 0):=⟨40,c,.inr rfl⟩;obtain⟨e,g⟩:=acY l 12 _ _ _ d b;have k:=qN l 12 _ _ _ d b;have f:=b;rw[wu c]at f;obtain⟨a,rfl⟩:=Lp _ _ _ _ _ f;simp only[Tr.ok,Tr.width]at e g;exact⟨_,a,rfl,e,aR⟩
 ·cases h
def eG (op:Nat):Nat:=
 if op=1 then 1 else if op=2 then 2 else if op=14 then 3 else if op=13 then 4 else if op=3 then 5 else if op=4 then 6 else if op=5 then 7 else if op=6 then 8 else if op=7 then 9
 else if op=8 then 10 else if op=9 then 11 else if op=10 then 12 else if op=11 then 13 else if op=12 then 16 else if op=16 then 17 else if op=15 then 18 else if op=17 then 18 else if op=18 then 19 else 0
def fP (t:Term):Nat:=if t.op=14 then dC.val t.text else 0
def Alike (t u:Term):Prop:=eG t.op=eG u.op/\t.sym=u.sym/\fP t=fP u/\t.args=u.args
theorem adk:∀a b:Fin 19,1<=a.1->1<=b.1->eG a.1=eG b.1->a.1=b.1\/(a.1=15/\b.1=17)\/(a.1=17/\b.1=15):=aY
theorem Ta:∀a b:Fin 19,1<=a.1->1<=b.1->a.1≠13->a.1≠14->b.1≠13->b.1≠14->iR a.1=iR b.1->eG a.1=eG b.1:=aY
theorem sw:∀a:Fin 19,1<=a.1->a.1≠13->a.1≠14->forbidden (iR a.1)=true/\digits (iR a.1)=false:=aY
theorem yt {t:Term}(h:Made g q t):1<=t.op/\t.op<=18:=by
 cases h with
 | bool a=>omega
 | num a=>omega
 | app a=>omega
 | form f b a=>have:=kM f b;omega
theorem nY (h:digits s=true):dC.Dg s/\s≠[]/\(s=[48]\/dC.BC s)/\s.length<=8:=by
 unfold digits at h;simp only[Bool.and_eq_true,decide_eq_true_eq,Bool.not_eq_true',ne_eq]at h;obtain⟨⟨⟨a,b⟩,c⟩,d⟩:=h;refine⟨?_,?_,?_,b⟩
 ·intro f g;have:=List.all_eq_true.1 d f g;unfold digit at this;simp only[Bool.and_eq_true,decide_eq_true_eq]at this;exact this
 ·intro e;rw[e]at a;simp at a
 ·by_cases e:s=[48]
  ·exact .inl e
  ·right
   unfold dC.BC;intro i;simp[i,e]at c
theorem Ik (f:digits s=true)(g:digits t=true)(h:dC.val s=dC.val t):s=t:=by
 obtain⟨c,i,b,_⟩:=nY f;obtain⟨d,j,a,_⟩:=nY g;have e:dC.val [48]=0:=aY;rcases b with b|b
 ·rcases a with a|a
  ·rw[b,a]
  ·have:=dC.CB d a;rw[<-h,b,e,dC.jL]at this;exact absurd this j
 ·rcases a with a|a
  ·have:=dC.CB c b;rw[h,a,e,dC.jL]at this;exact absurd this i
  ·rw[dC.CB c b,dC.CB d a,h]
theorem Ng (k:iB g q):∀(as a:List Nat),(∀b∈as,b<q.length)->(∀b∈a,b<q.length)->as.map (gG q)=a.map (gG q)->as=a:=by
 intro as
 induction as with
 | nil=>intro a _ _ h;cases a with
  | nil=>rfl
  | cons c a=>simp at h
 | cons b as l=>
  intro a e f h;cases a with
  | nil=>simp at h
  | cons c a=>
   simp only[List.map_cons,List.cons.injEq]at h;have i:=e b List.mem_cons_self;have j:=f c List.mem_cons_self;rw[uY i,uY j]at h;rw[k.texts b c i j h.1,l a (λx d=>e x (List.mem_cons_of_mem _ d)) (λx d=>f x (List.mem_cons_of_mem _ d)) h.2]
theorem pq {t:Term}(h:Made g q t):t.op=14->digits (nameOf g t)=true:=by
 intro b;cases h with
 | num _ _ _ _ c=>simpa[nameOf,b] using c
 | bool a=>omega
 | app a=>omega
 | form f d a=>have:=kM f d;omega
theorem Cg {t:Term}(j:∀s∈g,vZ s)(k:Made g q t):t.op=13->∃b:t.sym<g.length,nameOf g t=g[t.sym].name/\forbidden (nameOf g t)=false/\digits (nameOf g t)=false:=by
 intro l;cases k with
 | num f=>omega
 | bool f=>omega
 | form m a f=>have:=kM m a;omega
 | app _ b _ _=>
  refine⟨b,?_⟩;have d:nameOf g t=g[t.sym].name:=by simp[nameOf,l,qP b]
  have a:=(j _ (List.getElem_mem b)).name;refine⟨d,by rw[d];exact a,?_⟩;rw[d]
  by_cases h:digits g[t.sym].name=true
  ·exfalso;obtain⟨n,o,_,_⟩:=nY h;unfold forbidden at a;simp only[Bool.or_eq_false_iff,Bool.not_eq_false']at a;have c:=a.1.2;cases e:g[t.sym].name with
   | nil=>exact o e
   | cons i u=>
    rw[e]at c;have c:letter i=true:=c;have:=n i (by rw[e];simp);simp only[letter,Bool.or_eq_true,Bool.and_eq_true,decide_eq_true_eq]at c;exact aR
  ·exact anv
theorem pg {t:Term}(a:t.op≠13)(b:t.op≠14):nameOf g t=iR t.op:=by simp[nameOf,a,b]
theorem UG {t u:Term}(d:iB g q)(e:rU g q q.length t)(H:u∈q):t.text=u.text↔Alike t u:=by
 obtain⟨k,B,rfl⟩:=List.mem_iff_getElem.1 H;have b:=d.terms k B;have C:∀a∈q[k].args,a<q.length:=λa f=>Nat.lt_trans (b.args a f) B;have r:=yt e.made;have o:=yt b.made;constructor
 ·intro m;have I:=m;rw[e.text,b.text]at m;obtain⟨h,J⟩:=P7 (BN d.syms e.made) (BN d.syms b.made) (λa f=>d.tok a (e.args a f)) (λa f=>d.tok a (C a f)) m;have s:=Ng d _ _ e.args C J
  by_cases i:t.op=13
  ·obtain⟨K,L,D,l⟩:=Cg d.syms e.made i
   by_cases A7:q[k].op=13
   ·obtain⟨v,w,p,x⟩:=Cg d.syms b.made A7;rw[L,w]at h;exact⟨by rw[i,A7],d.names _ _ K v h,by simp[fP,i,A7],s⟩
   ·by_cases wo:q[k].op=14
    ·rw[h,pq b.made wo]at l;cases l
    ·rw[h,pg A7 wo]at D;have:=(sw ⟨q[k].op,aR⟩ o.1 A7 wo).1;simp only at this;rw[D]at this;cases this
  ·by_cases c:t.op=14
   ·have l:=pq e.made c
    by_cases A7:q[k].op=13
    ·obtain⟨v,w,p,x⟩:=Cg d.syms b.made A7;rw[h,x]at l;cases l
    ·by_cases wo:q[k].op=14
     ·refine⟨by rw[c,wo],?_,by simp[fP,c,wo,I],s⟩;cases e.made with
      | num _ _ _ j _=>
       cases b.made with
       | num _ _ _ M _=>rw[j,M]
       | bool a=>omega
       | app a=>omega
       | form y z a=>have:=kM y z;omega
      | bool a=>omega
      | app a=>omega
      | form y z a=>have:=kM y z;omega
     ·rw[h,pg A7 wo]at l;have:=(sw ⟨q[k].op,aR⟩ o.1 A7 wo).2;simp only at this;rw[l]at this;cases this
   ·have N:t.sym=0:=by
     cases e.made with
     | num a=>omega
     | bool _ _ _ j=>exact j
     | app a=>omega
     | form _ _ _ _ _ j=>exact j
    rw[pg i c]at h;have A:=sw ⟨t.op,aR⟩ r.1 i c;simp only at A
    by_cases A7:q[k].op=13
    ·obtain⟨v,w,p,x⟩:=Cg d.syms b.made A7;rw[<-h,A.1]at p;cases p
    ·by_cases wo:q[k].op=14
     ·have:=pq b.made wo;rw[<-h,A.2]at this;cases this
     ·have O:q[k].sym=0:=by
       cases b.made with
       | num a=>omega
       | bool _ _ _ j=>exact j
       | app a=>omega
       | form _ _ _ _ _ j=>exact j
      rw[pg A7 wo]at h;exact⟨Ta ⟨t.op,aR⟩ ⟨q[k].op,aR⟩ r.1 o.1 i c A7 wo h,by rw[N,O],by simp[fP,c,wo],s⟩
 ·rintro ⟨P,Q,E,R⟩;rw[e.text,b.text,R]
  congr 1
  rcases adk ⟨t.op,aR⟩ ⟨q[k].op,aR⟩ r.1 o.1 P with m|⟨f,n⟩|⟨f,n⟩
  ·simp only at m
   by_cases i:t.op=13
   ·simp[nameOf,i,show q[k].op=13 by omega,Q]
   ·by_cases c:t.op=14
    ·have wo:q[k].op=14:=aR;have F:=pq e.made c;have G:=pq b.made wo;simp only[nameOf,c,wo,show ¬(14:Nat)=13 by omega,if_true,if_false]at F G ⊢;simp only[fP,c,wo,if_true]at E;exact Ik F G E
    ·rw[pg i c,pg aR aR,m]
  ·simp only at f n;rw[pg aR aR,pg aR aR,f,n];rfl
  ·simp only at f n;rw[pg aR aR,pg aR aR,f,n];rfl
abbrev Lv:=Nat × Nat × Nat
def Lv.le (a b:Lv):Prop:=a.1<=b.1/\a.2.1<=b.2.1/\a.2.2<=b.2.2
structure UH (S:dO)(l:Lv):Prop where
 a:l.1<=S.syms.length
 b:l.2.1<=S.terms.length
 c:l.2.2<=S.held.length
 wf:iB (S.syms.take l.1) (S.terms.take l.2.1)
 held:∀h∈S.held.take l.2.2,h<l.2.1
structure iq (S:dO):Prop where
 book:iB S.syms S.terms
 held:∀h∈S.held,h<S.terms.length/\dY S.terms h=1
 qR:S.held.length<=12
 ve:S.levels.length<=4
 Bg:∀l∈S.levels,UH S l
 mono:S.levels.Pairwise Lv.le
def dO.empty:dO:=⟨[],[],[],[]⟩
theorem iB.empty:iB [] []:=⟨(by intro s a;cases a),(by intro i j hi;simp at hi),aW,(by intro k b;simp at b),(by intro i j hi;simp at hi),aW,(by intro t c;cases c)⟩
theorem iq.empty:iq dO.empty:=⟨iB.empty,(by intro h a;cases a),(by simp[dO.empty]),(by simp[dO.empty]),(by intro l b;cases b),(by simp[dO.empty])⟩
theorem take_prefix {b:Type}{a c:List b}(h:n<=a.length):(a++c).take n=a.take n:=List.take_append_of_le_length h
theorem Qe (h:n<g.length):lC (g++G) n=lC g n:=by simp[lC,List.getElem?_append_left h]
theorem Qf (h:n<g.length):iD (g++G) n=iD g n:=by simp[iD,List.getElem?_append_left h]
theorem Qd (h:n<g.length):iW (g++G) n=iW g n:=by simp[iW,List.getElem?_append_left h]
theorem rU.syms {t:Term}(h:rU g q n t):rU (g++G) q n t:=by
 refine⟨h.args,?_,?_⟩
 ·have:nameOf (g++G) t=nameOf g t:=by
   unfold nameOf;split
   ·rename_i k;cases h.made with
    | app _ j _ _=>exact Qe j
    | num a=>omega
    | bool a=>omega
    | form f e a=>have:=kM f e;omega
   ·rfl
  rw[this];exact h.text
 ·cases h.made with
  | bool a b c d=>exact .bool a b c d
  | num a b c d i=>exact .num a b c d i
  | app a b c d=>exact .app a aX (by rw[Qf b];exact c) (by rw[Qd b];exact d)
  | form f e a b c d i=>exact .form f e a b c d i
theorem iB.sym {x:Sym}(h:iB g q)(f:vZ x)(d:∀s∈g,s.name≠x.name)(n:g.length≠8):iB (g++[x]) q:=by
 have:=h.few;refine⟨?_,?_,aX,λk l=>(h.terms k l).syms,h.texts,h.many,h.long⟩
 ·intro s a;rcases List.mem_append.1 a with a|a
  ·exact h.syms s a
  ·rw[List.mem_singleton.1 a];exact f
 ·intro i j hi m e;simp only[List.length_append,List.length_cons,List.length_nil]at hi m
  by_cases c:i<g.length
  ·by_cases b:j<g.length
   ·rw[List.getElem_append_left c,List.getElem_append_left b]at e;exact h.names i j c b e
   ·rw[List.getElem_append_left c,List.getElem_append_right aR]at e;exact absurd (by simpa[show j-g.length=0 by omega] using e) (d _ (List.getElem_mem c))
  ·by_cases b:j<g.length
   ·rw[List.getElem_append_left b,List.getElem_append_right aR]at e;exact absurd (by simpa[show i-g.length=0 by omega] using e.symm) (d _ (List.getElem_mem b))
   ·exact aR
theorem UH.ext {l:Lv}(h:UH S l)(a:List Sym)(b:List Term)(c:List Nat)(lv:List Lv):UH ⟨S.syms++a,S.terms++b,S.held++c,lv⟩ l:=by
 have:=h.a;have:=h.b;have:=h.c;refine⟨aX,aX,aX,?_,?_⟩
 ·simp only;rw[take_prefix h.a,take_prefix h.b];exact h.wf
 ·simp only;rw[take_prefix h.c];exact h.held
theorem Sn:∀(a:List Tr) (l:List Nat),takes a=.ok l->(∀b∈l,b=2\/b=3)/\l.length=a.length:=by
 intro a
 induction a with
 | nil=>intro l h;injection h with h;subst h;simp
 | cons j a d=>
  intro l h;unfold takes at h;split at h
  ·rename_i e;split at h
   ·cases h
   ·rename_i f g;injection h with h;subst h;obtain⟨b,i⟩:=d f g;refine⟨?_,by simp[i]⟩;intro x c;rcases List.mem_cons.1 c with rfl|c
    ·exact e
    ·exact b x c
  ·cases h
theorem Mr (w:Str):gJ w=0\/gJ w=1\/gJ w=2\/gJ w=3:=by
 unfold gJ
 by_cases a:w=zz
 ·rw[if_pos a];exact aR
 ·rw[if_neg a]
  by_cases b:w=Dv
  ·rw[if_pos b];exact aR
  ·rw[if_neg b]
   by_cases c:w=wU
   ·rw[if_pos c];exact aR
   ·rw[if_neg c];exact aR
theorem Us (a:iq S)(c:oks r)(h:declare S n r=.ok T):iq T:=by
 unfold declare at h;split at h
 ·cases h
 ·cases h
 ·rename_i q t w u d b;split at h
  ·cases h
  ·split at h
   ·cases h
   ·rename_i v;split at h
    ·cases h
    ·rename_i f;split at h
     ·cases h
     ·rename_i g;split at h
      ·cases h
      ·rename_i x;split at h
       ·cases h
       ·rename_i l i;split at h
        ·cases h
        ·rename_i y;split at h
         ·cases h
         ·rename_i j;injection h with h;subst h;obtain⟨k,z⟩:=Sn d l i;simp only[oks,Tr.ok]at c
          have m:vZ ⟨w,l,gJ b.text⟩:=by
           refine⟨ana,c.2.1.2,k,anU,?_⟩;simp only;have:=Mr b.text;exact aR
          have o:∀s∈S.syms,s.name≠w:=Om (by
           cases e:gD S.syms w with
           | none=>rfl
           | some _=>simp[e]at g)
          refine⟨a.book.sym m o j,a.held,a.qR,a.ve,?_,a.mono⟩;intro lv p;have:=(a.Bg lv p).ext [⟨w,l,gJ b.text⟩] [] [] S.levels;simpa using this
 ·cases h
theorem aay (h:∀x∈l,x<q.length/\dY q x=1):∀x∈l,x<(q++p).length/\dY (q++p) x=1:=by
 intro x a;obtain⟨b,c⟩:=h x a;exact⟨aX,by rw[wB b];exact c⟩
theorem XQ (a:iq S)(d:oks r)(g:fE r<=800)(h:assert S n r=.ok T):iq T:=by
 unfold assert at h;split at h
 ·rename_i m t;split at h
  ·cases h
  ·rename_i e i;split at h
   ·cases h
   ·rename_i j;split at h
    ·cases h
    ·rename_i o;injection h with h;subst h;simp only[oks]at d;simp only[fE]at g;have c:=uW S.syms 12 t S.terms e a.book d.2.1 aR i;obtain⟨k,f⟩:=c.ext;have p:=a.qR;refine⟨c.wf,?_,aX,a.ve,?_,a.mono⟩
     ·intro x b;rcases List.mem_append.1 b with b|b
      ·simp only;rw[f];exact aay a.held x b
      ·rw[List.mem_singleton.1 b];exact⟨c.lt,by simpa using j⟩
     ·intro lv l;have:=(a.Bg lv l).ext [] k [e.2] S.levels;rw[<-f]at this;simpa using this
 ·cases h
theorem count_le {p n:Nat}{ks:List Tr}(h:count p ks=.ok n):n<=5:=by
 unfold count at h;split at h
 ·exact anP
 ·exact anP
 ·split at h
  ·repeat' split at h
   all_goals (injection h with h;omega)
  ·cases h
 ·cases h
theorem Lj {L:List Lv}{x:Lv}(h:L.Pairwise Lv.le)(a:∀l∈L,Lv.le l x)(n:Nat):(L++List.replicate n x).Pairwise Lv.le:=by
 rw[List.pairwise_append];refine⟨h,?_,?_⟩
 ·rw[List.pairwise_replicate];right;exact⟨ae,ae,ae⟩
 ·intro b c e d;rw[(List.mem_replicate.1 d).2];exact a b c
theorem adh (a:iq S)(h:push S n r=.ok T):iq T:=by
 unfold push at h;split at h
 ·cases h
 ·rename_i c e;split at h
  ·cases h
  ·rename_i f;injection h with h;subst h;refine⟨a.book,a.held,a.qR,aX,?_,?_⟩
   ·intro l b;rcases List.mem_append.1 b with b|b
    ·have:=(a.Bg l b).ext [] [] [] (S.levels++List.replicate c (S.syms.length,S.terms.length,S.held.length));simpa using this
    ·rw[(List.mem_replicate.1 b).2];refine⟨ae,ae,ae,?_,?_⟩
     ·simpa using a.book
     ·intro x d;exact(a.held x (List.take_subset _ _ d)).1
   ·exact Lj a.mono (λl b=>⟨(a.Bg l b).a,(a.Bg l b).b,(a.Bg l b).c⟩) c
theorem nH {c:Type}(l:List c){a b:Nat}(h:a<=b):(l.take b).take a=l.take a:=by rw[List.take_take,Nat.min_eq_left h]
theorem Sr (h:m<n):dY (q.take n) m=dY q m:=by simp[dY,h]
def back (S:dO)(l:Lv)(L:List Lv):dO:=⟨S.syms.take l.1,S.terms.take l.2.1,S.held.take l.2.2,L⟩
theorem JP (a:iq S){l:Lv}{L R:List Lv}(c:S.levels=L++l::R):iq (back S l L):=by
 have b:=a.Bg l (by rw[c];simp);have d:=a.mono;rw[c,List.pairwise_append]at d;have e:=a.ve;rw[c]at e;simp only[List.length_append,List.length_cons]at e;have p:=a.qR;refine⟨b.wf,?_,by simp[back];omega,by simp only[back];omega,?_,d.1⟩
 ·intro x f;have i:=b.held x f;have j:=a.held x (List.take_subset _ _ f);refine⟨by have:=b.b;simp only[back,List.length_take];omega,?_⟩;simp only[back];rw[Sr i];exact j.2
 ·intro m g;have h:=a.Bg m (by rw[c];exact List.mem_append_left _ g);obtain⟨k,n,o⟩:=d.2.2 m g l aW;have:=b.a;have:=b.b;have:=b.c;refine⟨anA,anA,anA,?_,?_⟩
  ·simp only[back];rw[nH _ k,nH _ n];exact h.wf
  ·simp only[back];rw[nH _ o];exact h.held
theorem Jr {L:List Lv}{l:Lv}(a:S.levels=L++[l]):SI S=back S l L:=by
 unfold SI back;rw[a];exact aW
theorem Zu:∀(n:Nat) (R:List Lv) (S:dO) (L:List Lv) (l:Lv),R.length=n->iq S->S.levels=L++l::R->wY (R.length+1) S=back S l L:=by
 intro n
 induction n with
 | zero=>
  intro R S L l a _ c;have:R=[]:=List.eq_nil_of_length_eq_zero a;subst this;simp only[List.length_nil,wY];exact Jr c
 | succ n h=>
  intro b S L l a e c;have f:b≠[]:=by intro i;rw[i]at a;simp at a
  obtain⟨R,r,rfl⟩:∃R r,b=R++[r]:=⟨b.dropLast,b.getLast f,(List.dropLast_concat_getLast f).symm⟩;have j:R.length=n:=amr;have d:S.levels=(L++l::R)++[r]:=by rw[c];simp
  have k:iq (back S r (L++l::R)):=JP e (R:=[]) d;have g:=e.mono;rw[d,List.pairwise_append]at g;obtain⟨m,o,p⟩:=g.2.2 l aW r aW;simp only[List.length_append,List.length_cons,List.length_nil,Nat.zero_add];rw[wY,Jr d,h R _ L l j k rfl];simp only[back];rw[nH _ m,nH _ o,nH _ p]
theorem Q6 (R:List Lv)(S:dO)(L:List Lv)(l:Lv)(a:iq S)(b:S.levels=L++l::R):wY (R.length+1) S=back S l L:=Zu _ R S L l rfl a b
theorem Kk {S:dO}{n:Nat}(a:0<n)(h:n<=S.levels.length):∃L l R,S.levels=L++l::R/\R.length+1=n/\L.length=S.levels.length-n:=by
 refine⟨S.levels.take (S.levels.length-n),S.levels[S.levels.length-n],S.levels.drop (S.levels.length-n+1),?_,aX,aW⟩;rw[<-List.drop_eq_getElem_cons aR,List.take_append_drop]
theorem aeq (a:iq S)(h:pop S n r=.ok T):iq T:=by
 unfold pop at h;split at h
 ·cases h
 ·rename_i b f;split at h
  ·cases h
  ·rename_i g;injection h with h;subst h;rcases Nat.eq_zero_or_pos b with rfl|d
   ·exact a
   ·obtain⟨L,l,R,c,e,_⟩:=Kk d (by omega:b<=S.levels.length);rw[<-e,Q6 R S L l a c];exact JP a c
theorem map_ok {x:Except (Nat × Nat) dO}{r:dO × Bool}(h:x.map (λs=>(s,false))=.ok r):x=.ok r.1/\r.2=false:=by
 cases x with
 | error e=>simp[Except.map]at h
 | ok s=>simp[Except.map]at h;subst h;simp
theorem aem {b:dO × Bool}(a:iq S)(c:oks r)(d:fE r<=800)(h:run S n r=.ok b):iq b.1:=by
 unfold run at h;split at h
 ·cases h
 ·split at h
  ·exact Us a c (map_ok h).1
  ·split at h
   ·exact XQ a c d (map_ok h).1
   ·split at h
    ·exact adh a (map_ok h).1
    ·split at h
     ·exact aeq a (map_ok h).1
     ·split at h
      ·split at h
       ·cases h
       ·injection h with h;subst h;exact a
      ·split at h
       ·split at h
        ·cases h
        ·injection h with h;subst h;exact iq.empty
       ·cases h
theorem JI {r:dO × Bool}(a:iq S)(h:lK S s=.ok r):iq r.1:=by
 unfold lK at h;split at h
 ·cases h
 ·split at h
  ·cases h
  ·rename_i t b;obtain⟨p,d,rfl,c,e⟩:=Ca b;exact aem a c aR h
theorem D8 (a c:List Tr):∀b,gP (a++c) b=gP a b++gP c (b+(gP a b).length):=by
 induction a with
 | nil=>intro b;simp[gP]
 | cons k a d=>intro b;simp[gP,d,Nat.add_assoc]
def start (ks:List Tr)(b n:Nat):Nat:=b+(gP (ks.take n) b).length
def places (ks:List Tr)(b:Nat):List Nat:=(List.range ks.length).map (start ks b)
theorem xK (a:List Tr)(b:Nat):start a b 0=b:=by simp[start,gP]
theorem GY (h:m<r.length):start r n (m+1)=start r n m+(flat r[m] (start r n m)).length:=by
 unfold start;rw[List.take_add_one,aF h];simp only[Option.toList_some,D8,List.length_append,gP];simp[Nat.add_assoc]
theorem zF (a:List Tr)(b:Nat):start a b a.length=b+(gP a b).length:=by simp[start]
theorem Gu (t:Tr)(b:Nat):0<(flat t b).length:=by cases t<;>simp[flat]
theorem F8 {ks:List Tr}{b n:Nat}(h:n<ks.length):start ks b n<start ks b (n+1):=by
 rw[GY h];have:=Gu ks[n] (start ks b n);exact aR
theorem Su {ks:List Tr}{b:Nat}:∀m n,n+m<=ks.length->start ks b n<=start ks b (n+m):=by
 intro m
 induction m with
 | zero=>intro n _;exact ae
 | succ m a=>intro n h;have:=a n aR;have:=F8 (ks:=ks) (b:=b) (n:=n+m) aR;rw[<-Nat.add_assoc];omega
theorem Zb {ks:List Tr}{b n:Nat}(h:n<=ks.length):start ks b n<=b+(gP ks b).length:=by
 have:=Su (ks:=ks) (b:=b) (ks.length-n) n aR;rw[show n+(ks.length-n)=ks.length by omega,zF]at this;exact this
theorem Xp (t:Tr)(b:Nat):∃a,flat t b=⟨t.pos,t.text,b+(flat t b).length⟩::a:=by
 cases t with
 | word p w=>exact⟨[],by simp[flat,Tr.pos,Tr.text]⟩
 | list p c=>refine⟨gP c (b+1),by simp[flat,Tr.pos,Tr.text];omega⟩
def mg (its:List Item)(b:Nat)(t:Tr):Prop:=∃pre post,its=pre++(flat t b++post)/\pre.length=b
theorem mg.item {a:List Item}{t:Tr}(h:mg a n t):a[n]?=some ⟨t.pos,t.text,n+(flat t n).length⟩:=by
 obtain⟨pre,c,rfl,rfl⟩:=h;obtain⟨d,b⟩:=Xp t pre.length;rw[List.getElem?_append_right ae,Nat.sub_self];rw[List.getElem?_append_left (Gu t pre.length)]
 conv=>lhs;rw[b]
 exact aW
theorem mg.lt {a:List Item}{t:Tr}(h:mg a n t):n+(flat t n).length<=a.length:=by
 obtain⟨pre,b,rfl,rfl⟩:=h;simp only[List.length_append];exact aR
theorem mg.lt' {a:List Item}{t:Tr}(h:mg a n t):n<a.length:=by
 have:=h.lt;have:=Gu t n;exact aR
theorem mg.kid {b:List Item}(h:mg b n (.list m r)){a:Nat}(c:a<r.length):mg b (start r (n+1) a) r[a]:=by
 obtain⟨pre,d,rfl,rfl⟩:=h;have e:r=r.take a++r[a]::r.drop (a+1):=by rw[<-List.drop_eq_getElem_cons c,List.take_append_drop]
 have f:gP r (pre.length+1)=gP (r.take a) (pre.length+1)++(flat r[a] (start r (pre.length+1) a)++gP (r.drop (a+1)) (start r (pre.length+1) a+(flat r[a] (start r (pre.length+1) a)).length)):=by
  conv=>lhs;rw[e]
  rw[D8,gP];rfl
 refine⟨pre++⟨m,[],pre.length+1+(gP r (pre.length+1)).length⟩::gP (r.take a) (pre.length+1),gP (r.drop (a+1)) (start r (pre.length+1) a+(flat r[a] (start r (pre.length+1) a)).length)++d,?_,?_⟩
 ·rw[flat];simp only[List.append_assoc,List.cons_append]
  congr 2
  conv=>lhs;rw[f]
  simp only[List.append_assoc]
 ·simp[start];exact aR
theorem mg.top (t:Tr):mg (flat t 0) 0 t:=⟨[],[],aW,rfl⟩
theorem BZ (a:List Tr)(b:Nat):(places a b).length=a.length:=by simp[places]
theorem mJ {ks:List Tr}{b n:Nat}(h:n<ks.length):(places ks b)[n]?=some (start ks b n):=by simp[places,List.getElem?_range h]
theorem Qn {ks:List Tr}{b n:Nat}(h:n<ks.length):(places ks b).take (n+1)=(places ks b).take n++[start ks b n]:=by
 rw[List.take_add_one,mJ h];rfl
