import Derived.Test.YtbichedkajfmiaaGreatDoorA
set_option maxRecDepth 100000
set_option maxHeartbeats 16000000
namespace Doc
variable {i j k m n:Nat}{l:List Nat}
abbrev Str:=List UInt8
inductive Tr where
 | word (p:Nat) (w:Str)
 | list (p:Nat) (ks:List Tr)
def Tr.pos:Tr->Nat|.word p _=>p|.list p _=>p
def Tr.isList:Tr->Bool|.word _ _=>false|.list _ _=>true
def Tr.text:Tr->Str|.word _ w=>w|.list _ _=>[]
def Tr.kids:Tr->List Tr|.word _ _=>[]|.list _ ks=>ks
def pV:Str:=[97,98,99,100,101,102,103,104,105,106,107,108,109,110,111,112,113,114,115,116,117,118,119,120,121,122,
 65,66,67,68,69,70,71,72,73,74,75,76,77,78,79,80,81,82,83,84,85,86,87,88,89,90,
 48,49,50,51,52,53,54,55,56,57,45,43,42,60,62,61]
def named (c:UInt8):Bool:=pV.contains c
def iq (c:UInt8):Bool:=c==32||c==10
def blank (l:Str)(i:Nat):Nat:=i+((l.drop i).takeWhile iq).length
def fu (l:Str)(i:Nat):Str:=(l.drop i).takeWhile named
inductive qW where
 | ok (t:Tr) (j:Nat)
 | err (e p:Nat)
def eQ (one:Nat->qW)(l:Str)(p:Nat):Nat->Nat->List Tr->qW
 | 0,i,_=>.err 2 i
 | f+1,i,acc=>
  match l[i]? with
  | none=>.err 2 i
  | some c=>
   if c=41 then .ok (.list p acc) (i+1)
   else if named c=false/\c≠40 then .err 2 i
   else match one i with
    | .err e q=>.err e q
    | .ok k j=>eQ one l p f (blank l j) (acc++[k])
def tree (l:Str):Nat->Nat->qW
 | 0,i=>if l[i]?=some 40 then .err 3 i else .ok (.word i (fu l i)) (i+(fu l i).length)
 | n+1,i=>if l[i]?=some 40 then eQ (tree l n) l i (l.length+1) (blank l (i+1)) [] else .ok (.word i (fu l i)) (i+(fu l i).length)
def parse (l:Str):Except (Nat × Nat) Tr:=
 if l[blank l 0]?=some 40 then
  match tree l 12 (blank l 0) with
  | .err e p=>.error (e,p)
  | .ok t j=>if blank l j<l.length then .error (2,blank l j) else .ok t
 else .error (2,blank l 0)
structure Sym where
 name:Str
 args:List Nat
 sort:Nat
structure Term where
 text:Str
 op:Nat
 sort:Nat
 sym:Nat
 args:List Nat
def eX (ss:List Sym)(w:Str):Option Nat:=ss.findIdx? (fun s=>s.name==w)
def place (ts:List Term)(x:Str):Option Nat:=ts.findIdx? (fun t=>t.text==x)
def digit (c:UInt8):Bool:=48<=c.toNat&&c.toNat<=57
def digits (w:Str):Bool:=w.length≠0&&w.length<=8&&!(w.head?==some 48&&w !=[48])&&w.all digit
def note (ts:List Term)(t:Term):Except Nat (List Term × Nat):=
 match place ts t.text with
 | some k=>.ok (ts,k)
 | none=>if ts.length=80 then .error 9 else .ok (ts++[t],ts.length)
def lV:Str:=[116,114,117,101]
def kz:Str:=[102,97,108,115,101]
def wT:Str:=[66,111,111,108]
def AQ:Str:=[73,110,116]
def wU:Str:=[85]
def gK (ss:List Sym)(s:Nat):List Nat:=match ss[s]? with|some x=>x.args|none=>[]
def iN (ss:List Sym)(s:Nat):Nat:=match ss[s]? with|some x=>x.sort|none=>0
def jQ (ss:List Sym)(s:Nat):Str:=match ss[s]? with|some x=>x.name|none=>[]
def dF (ts:List Term)(k:Nat):Nat:=match ts[k]? with|some t=>t.sort|none=>0
def mY (ts:List Term)(k:Nat):Nat:=match ts[k]? with|some t=>t.op|none=>0
def fe (ts:List Term)(k:Nat):Str:=match ts[k]? with|some t=>t.text|none=>[]
def om (ts:List Term)(k:Nat):List Nat:=match ts[k]? with|some t=>t.args|none=>[]
def leaf (ss:List Sym)(ts:List Term)(w:Str):Except Nat (List Term × Nat):=
 if w=lV then note ts ⟨w,1,1,0,[]⟩
 else if w=kz then note ts ⟨w,2,1,0,[]⟩
 else if digits w=true then note ts ⟨w,14,2,0,[]⟩
 else match eX ss w with
  | none=>.error 5
  | some s=>if 0<(gK ss s).length then .error 7 else note ts ⟨w,13,iN ss s,s,[]⟩
structure Form where
 word:Str
 print:Str
 op:Nat
 least:Nat
 most:Nat
 args:Nat
 sort:Nat
def forms:List Form:=[
 ⟨[110,111,116],[110,111,116],3,1,1,1,1⟩,
 ⟨[97,110,100],[97,110,100],4,2,4,1,1⟩,
 ⟨[111,114],[111,114],5,2,4,1,1⟩,
 ⟨[120,111,114],[120,111,114],6,2,2,1,1⟩,
 ⟨[61,62],[61,62],7,2,2,1,1⟩,
 ⟨[61],[61],8,2,2,0,1⟩,
 ⟨[100,105,115,116,105,110,99,116],[100,105,115,116,105,110,99,116],9,2,4,0,1⟩,
 ⟨[60,61],[60,61],10,2,2,2,1⟩,
 ⟨[60],[60],11,2,2,2,1⟩,
 ⟨[62,61],[60,61],10,2,2,2,1⟩,
 ⟨[62],[60],11,2,2,2,1⟩,
 ⟨[105,116,101],[105,116,101],12,3,3,0,0⟩,
 ⟨[43],[43],16,2,4,2,2⟩,
 ⟨[42],[42],18,2,2,2,2⟩,
 ⟨[45],[45],15,1,1,2,2⟩,
 ⟨[45],[45],17,2,2,2,2⟩]
def jY (w:Str):Bool:=forms.any (fun f=>f.word==w)
def Form.from_ (f:Form):Nat:=if f.op=12 then 1 else 0
def Form.want (f:Form)(ts:List Term)(args:List Nat):Nat:=if f.args=0 then dF ts (args.getD f.from_ 0) else f.args
def fits (ts:List Term)(f:Form)(args:List Nat):Option Nat:=
 if args.length<f.least\/args.length>f.most then none
 else if f.op=12/\dF ts (args.getD 0 0)≠1 then none
 else if ((args.drop f.from_).all (fun a=>dF ts a==f.want ts args))=false then none
 else if f.op=9/\f.want ts args=1 then none
 else if f.sort=0 then some (f.want ts args)
 else some f.sort
def number (ts:List Term)(k:Nat):Bool:=if mY ts k=15 then mY ts ((om ts k).getD 0 0)==14 else mY ts k==14
def tail (ts:List Term)(args:List Nat):Str:=args.flatMap (fun a=>32::fe ts a)
def written (ts:List Term)(name:Str)(args:List Nat):Str:=if args.length=0 then name else 40::name++tail ts args++[41]
def applied (ss:List Sym)(ts:List Term)(s:Nat)(args:List Nat):Except Nat (List Term × Nat):=
 if args.length=0\/args.length≠(gK ss s).length then .error 7
 else if args.map (dF ts)≠gK ss s then .error 7
 else note ts ⟨written ts (jQ ss s) args,13,iN ss s,s,args⟩
def swap (args:List Nat):List Nat:=[args.getD 1 0,args.getD 0 0]
def turned (ts:List Term)(w:Str)(f:Form)(args:List Nat):Option (List Nat):=
 if f.op=18 then
  if number ts (args.getD 0 0)=true then some args
  else if number ts (args.getD 1 0)=true then some (swap args)
  else none
 else if w=[62,61]\/w=[62] then some (swap args)
 else some args
def ja (ts:List Term)(w:Str)(args:List Nat):List Form->Except Nat (List Term × Nat)
 | []=>.error 7
 | f::fs=>
  if f.word=w then
   match fits ts f args with
   | none=>ja ts w args fs
   | some sort=>
    match turned ts w f args with
    | none=>.error 8
    | some l=>note ts ⟨written ts f.print l,f.op,sort,0,l⟩
  else ja ts w args fs
def l8 (ts:List Term)(w:Str)(args:List Nat):Except Nat (List Term × Nat):=ja ts w args forms
def gI (one:Tr->List Term->Except (Nat × Nat) (List Term × Nat)):List Tr->List Term->List Nat->Except (Nat × Nat) (List Term × List Nat)
 | [],ts,acc=>.ok (ts,acc)
 | k::ks,ts,acc=>
  match one k ts with
  | .error x=>.error x
  | .ok r=>gI one ks r.1 (acc++[r.2])
def ig (p:Nat):Except Nat (List Term × Nat)->Except (Nat × Nat) (List Term × Nat)
 | .error e=>.error (e,p)
 | .ok r=>.ok r
def term (ss:List Sym):Nat->Tr->List Term->Except (Nat × Nat) (List Term × Nat)
 | 0,_,_=>.error (0,0)
 | _+1,.word p w,ts=>ig p (leaf ss ts w)
 | _+1,.list p [],_=>.error (4,p)
 | _+1,.list _ (.list q _::_),_=>.error (4,q)
 | d+1,.list p (.word q w::rest),ts=>
  if jY w=false/\eX ss w=none then .error (5,q)
  else match gI (term ss d) rest ts [] with
   | .error x=>.error x
   | .ok r=>ig p (if jY w=true then l8 r.1 w r.2 else applied ss r.1 ((eX ss w).getD 0) r.2)
structure dB where
 syms:List Sym
 terms:List Term
 held:List Nat
 levels:List (Nat × Nat × Nat)
def fw (w:Str):Nat:=if w=wT then 1 else if w=AQ then 2 else if w=wU then 3 else 0
def letter (c:UInt8):Bool:=(97<=c.toNat&&c.toNat<=122)||(65<=c.toNat&&c.toNat<=90)
def forbidden (w:Str):Bool:=
 jY w||w==lV||w==kz||w==wT||w==AQ||w==wU||!(letter (w.headD 0))||decide (8<w.length)
def fP:List Tr->Option Nat
 | []=>none
 | .list p _::_=>some p
 | .word _ _::ks=>fP ks
def takes:List Tr->Except Nat (List Nat)
 | []=>.ok []
 | k::ks=>if fw k.text=2\/fw k.text=3 then(match takes ks with|.error p=>.error p|.ok l=>.ok (fw k.text::l)) else .error k.pos
def declare (S:dB)(p:Nat)(ks:List Tr):Except (Nat × Nat) dB:=
 match ks with
 | [_,.list q _,_,_]=>.error (4,q)
 | [_,.word _ _,.word q _,_]=>.error (4,q)
 | [_,.word q w,.list r js,last]=>
  match fP js with
  | some x=>.error (4,x)
  | none=>
   if last.isList then .error (4,last.pos)
   else if forbidden w=true then .error (5,q)
   else if (eX S.syms w).isSome then .error (6,q)
   else if 2<js.length then .error (7,r)
   else match takes js with
    | .error x=>.error (7,x)
    | .ok l=>
     if fw last.text=0 then .error (7,last.pos)
     else if S.syms.length=8 then .error (9,p)
     else .ok { S with syms:=S.syms++[⟨w,l,fw last.text⟩] }
 | _=>.error (4,p)
def assert (S:dB)(p:Nat)(ks:List Tr):Except (Nat × Nat) dB:=
 match ks with
 | [_,t]=>
  match term S.syms 12 t S.terms with
  | .error x=>.error x
  | .ok r=>
   if dF r.1 r.2≠1 then .error (7,t.pos)
   else if S.held.length=12 then .error (9,p)
   else .ok { S with terms:=r.1,held:=S.held++[r.2] }
 | _=>.error (4,p)
def count (p:Nat)(ks:List Tr):Except (Nat × Nat) Nat:=
 match ks with
 | []=>.ok 1
 | [_]=>.ok 1
 | [_,k]=>
  if digits k.text=true then
   (if k.text=[48] then .ok 0 else if k.text=[49] then .ok 1 else if k.text=[50] then .ok 2 else if k.text=[51] then .ok 3 else if k.text=[52] then .ok 4 else .ok 5)
  else .error (4,k.pos)
 | _=>.error (4,p)
def push (S:dB)(p:Nat)(ks:List Tr):Except (Nat × Nat) dB:=
 match count p ks with
 | .error x=>.error x
 | .ok n=>if S.levels.length+n>4 then .error (9,p) else .ok { S with levels:=S.levels++List.replicate n (S.syms.length,S.terms.length,S.held.length) }
def OX (S:dB):dB:=
 match S.levels.getLast? with
 | none=>S
 | some l=>⟨S.syms.take l.1,S.terms.take l.2.1,S.held.take l.2.2,S.levels.dropLast⟩
def uk:Nat->dB->dB
 | 0,S=>S
 | n+1,S=>uk n (OX S)
def pop (S:dB)(p:Nat)(ks:List Tr):Except (Nat × Nat) dB:=
 match count p ks with
 | .error x=>.error x
 | .ok n=>if n>S.levels.length then .error (10,p) else .ok (uk n S)
def fV:Str:=[100,101,99,108,97,114,101,45,102,117,110]
def iM:Str:=[97,115,115,101,114,116]
def nZ:Str:=[112,117,115,104]
def xK:Str:=[112,111,112]
def mW:Str:=[99,104,101,99,107,45,115,97,116]
def yz:Str:=[114,101,115,101,116]
def run (S:dB)(p:Nat)(ks:List Tr):Except (Nat × Nat) (dB × Bool):=
 match ks with
 | []=>.error (4,p)
 | k::rest=>
  if k.text=fV then(declare S p ks).map (fun s=>(s,false))
  else if k.text=iM then(assert S p ks).map (fun s=>(s,false))
  else if k.text=nZ then(push S p ks).map (fun s=>(s,false))
  else if k.text=xK then(pop S p ks).map (fun s=>(s,false))
  else if k.text=mW then(if 0<rest.length then .error (4,p) else .ok (S,true))
  else if k.text=yz then(if 0<rest.length then .error (4,p) else .ok (⟨[],[],[],[]⟩,false))
  else .error (4,k.pos)
def jV (S:dB)(l:Str):Except (Nat × Nat) (dB × Bool):=
 if 400<l.length then .error (1,0)
 else match parse l with
  | .error x=>.error x
  | .ok t=>run S t.pos t.kids
def asks (l:Str):Bool:=
 if 400<l.length then false
 else match parse l with
  | .error _=>false
  | .ok t=>match t.kids with
   | [.word _ w]=>w==mW
   | _=>false
def gZ (s:Nat):Str:=if s=1 then wT else if s=2 then AQ else wU
def fK:List Nat->Str
 | []=>[]
 | [s]=>gZ s
 | s::ss=>gZ s++32::fK ss
def jE (x:Sym):Str:=40::fV++32::x.name++32::40::fK x.args++41::32::gZ x.sort++[41,10]
def iw (ts:List Term)(k:Nat):Str:=40::iM++32::fe ts k++[41,10]
def pI:Str:=40::nZ++[41,10]
def part (S:dB)(a b c d:Nat):Str:=((S.syms.take c).drop a).flatMap jE++((S.held.take d).drop b).flatMap (iw S.terms)
def kU (S:dB):List (Nat × Nat × Nat)->Nat->Nat->Str
 | [],a,b=>part S a b S.syms.length S.held.length
 | l::ls,a,b=>part S a b l.1 l.2.2++pI++kU S ls (max a l.1) (max b l.2.2)
def print (S:dB):Str:=kU S S.levels 0 0
variable {s:Str}
theorem Ab (h:n<s.length)(a:iq s[n]=true):blank s n=blank s (n+1):=by
 unfold blank;rw[List.drop_eq_getElem_cons h,List.takeWhile_cons_of_pos a];simp only[List.length_cons];exact aO
theorem z8 (h:n<s.length)(a:iq s[n]=false):blank s n=n:=by
 unfold blank;rw[List.drop_eq_getElem_cons h,List.takeWhile_cons_of_neg (by simp[a])];exact aP
theorem BD (h:s.length<=n):blank s n=n:=by
 unfold blank;rw[List.drop_eq_nil_of_le h];exact aP
theorem nR (l:Str)(i:Nat):i<=blank l i:=by unfold blank;omega
theorem Am (p:UInt8->Bool)(l:Str):(l.takeWhile p).length<=l.length:=(List.takeWhile_sublist p).length_le
theorem pU {l:Str}{i:Nat}(h:i<=l.length):blank l i<=l.length:=by
 unfold blank;have:=Am iq (l.drop i);rw[List.length_drop]at this;exact aO
theorem FW (p:UInt8->Bool)(l:Str)(h:(l.takeWhile p).length<l.length):p (l[(l.takeWhile p).length]'h)=false:=by
 induction l with
 | nil=>simp at h
 | cons c l b=>
  by_cases a:p c=true
  ·simp only[List.takeWhile_cons_of_pos a,List.length_cons,List.getElem_cons_succ]at h ⊢;exact b aO
  ·simp only[List.takeWhile_cons_of_neg a,List.length_nil,List.getElem_cons_zero];exact aiW
theorem qU (h:blank s n<s.length):iq s[blank s n]=false:=by
 have a:((s.drop n).takeWhile iq).length<(s.drop n).length:=by rw[List.length_drop];unfold blank at h;omega
 have:=FW iq (s.drop n) a;simpa[List.getElem_drop,blank] using this
theorem acS (l:Str)(i:Nat):blank l (blank l i)=blank l i:=by
 by_cases h:blank l i<l.length
 ·exact z8 h (qU h)
 ·exact BD aO
theorem xJ (h:n<s.length)(a:named s[n]=true):fu s n=s[n]::fu s (n+1):=by
 unfold fu;rw[List.drop_eq_getElem_cons h,List.takeWhile_cons_of_pos a]
theorem xI (h:n<s.length)(a:named s[n]=false):fu s n=[]:=by
 unfold fu;rw[List.drop_eq_getElem_cons h,List.takeWhile_cons_of_neg (by simp[a])]
theorem Eb (h:s.length<=n):fu s n=[]:=by
 unfold fu;rw[List.drop_eq_nil_of_le h];rfl
theorem wS {l:Str}{i:Nat}(h:i<=l.length):i+(fu l i).length<=l.length:=by
 unfold fu;have:=Am named (l.drop i);rw[List.length_drop]at this;exact aO
theorem adE:fu s n=(s.drop n).take (fu s n).length:=by
 unfold fu;generalize s.drop n=u
 induction u with
 | nil=>simp
 | cons c u b=>
  by_cases a:named c=true
  ·rw[List.takeWhile_cons_of_pos a];exact ajh
  ·rw[List.takeWhile_cons_of_neg a];exact aP
def je (l:Str)(i:Nat):Prop:=∃c,l[i]?=some c/\(named c=true\/c=40)
theorem je.lt (h:je s n):n<s.length:=by
 obtain⟨c,a,_⟩:=h;exact(List.getElem?_eq_some_iff.1 a).1
theorem qB (h:je s n)(d:s[n]?≠some 40):n<n+(fu s n).length/\n+(fu s n).length<=s.length:=by
 have c:=h.lt;obtain⟨e,b,a⟩:=h;have f:s[n]=e:=by rw[aD c]at b;simpa using b
 rcases a with a|a
 ·have:=xJ c (by rw[f];exact a);refine⟨by rw[this];simp,wS aO⟩
 ·subst a;exact absurd b d
theorem FQ {one:Nat->qW}(g:∀i k j,je s i->one i=.ok k j->i<j/\j<=s.length) :
 ∀(f i:Nat) (a:List Tr) (t:Tr) (j:Nat),eQ one s n f i a=.ok t j->i<j/\j<=s.length:=by
 intro f
 induction f with
 | zero=>intro i a t j h;simp[eQ]at h
 | succ f l=>
  intro i a t j h;unfold eQ at h;split at h
  ·exact ajo
  ·rename_i c b;have v:=(List.getElem?_eq_some_iff.1 b).1;split at h
   ·injection h with m o;exact aO
   ·split at h
    ·exact ajo
    ·rename_i w p;split at h
     ·exact ajo
     ·rename_i k d q
      have r:je s i:=⟨c,b,by
       by_cases e:named c=true
       ·exact .inl e
       ·right
        refine Decidable.byContradiction fun u=>p ⟨by simpa using e,u⟩⟩
      obtain⟨m,o⟩:=g i k d r q;have:=l _ _ _ _ h;have:=nR s d;exact aO
theorem oh (l:Str):∀(n i:Nat) (t:Tr) (j:Nat),je l i->tree l n i=.ok t j->i<j/\j<=l.length:=by
 intro n
 induction n with
 | zero=>
  intro i t j a h;unfold tree at h;split at h
  ·exact ajo
  ·rename_i b;injection h with d c;subst c;exact qB a b
 | succ n e=>
  intro i t j a h;unfold tree at h;split at h
  ·have:=FQ (fun i k j a h=>e i k j a h) _ _ _ _ _ h;have:=nR l (i+1);exact aO
  ·rename_i b;injection h with d c;subst c;exact qB a b
variable {r:List Tr}
theorem Ke {one:Nat->qW}(h:s.length<=k):eQ one s n (m+1) k r=.err 2 k:=by
 unfold eQ;rw[List.getElem?_eq_none h]
theorem Es {one:Nat->qW}(h:k<s.length)(a:s[k]=41):eQ one s n (m+1) k r=.ok (.list n r) (k+1):=by
 unfold eQ;rw[aD h];simp[a]
theorem Kg {one:Nat->qW}(h:k<s.length)(a:s[k]≠41)(b:named s[k]=false)(c:s[k]≠40):eQ one s n (m+1) k r=.err 2 k:=by
 unfold eQ;rw[aD h];simp[a,b,c]
theorem Kc {one:Nat->qW}(h:k<s.length)(b:s[k]≠41)(a:named s[k]=true\/s[k]=40)(c:one k=.err i j):eQ one s n (m+1) k r=.err i j:=by
 unfold eQ;rw[aD h]
 have:¬(named s[k]=false/\s[k]≠40):=by
  rintro ⟨d,e⟩;rcases a with a|a
  ·rw[d]at a;cases a
  ·exact e a
 simp only[b,if_false,if_neg this,c]
theorem Kb {one:Nat->qW}{b:Tr}(h:k<s.length)(c:s[k]≠41)(a:named s[k]=true\/s[k]=40)(d:one k=.ok b i):eQ one s n (m+1) k r=eQ one s n m (blank s i) (r++[b]):=by
 conv=>lhs;unfold eQ
 rw[aD h]
 have:¬(named s[k]=false/\s[k]≠40):=by
  rintro ⟨e,f⟩;rcases a with a|a
  ·rw[e]at a;cases a
  ·exact f a
 simp only[c,if_false,if_neg this,d]
theorem p8 (h:s[m]?≠some 40):tree s n m=.ok (.word m (fu s m)) (m+(fu s m).length):=by
 cases n<;>(unfold tree;rw[if_neg h])
theorem wV (h:s[n]?=some 40):tree s 0 n=.err 3 n:=by unfold tree;rw[if_pos h]
theorem sV (h:s[m]?=some 40):tree s (n+1) m=eQ (tree s n) s m (s.length+1) (blank s (m+1)) []:=by
 conv=>lhs;unfold tree
 rw[if_pos h]
theorem Kh {one:Nat->qW}(b:∀i e q,one i=.err e q->e=2\/e=3):∀(f i:Nat) (a:List Tr) (e q:Nat),eQ one s n f i a=.err e q->e=2\/e=3:=by
 intro f
 induction f with
 | zero=>intro i a e q h;simp[eQ]at h;omega
 | succ f c=>
  intro i a e q h;unfold eQ at h;split at h
  ·injection h;exact aO
  ·split at h
   ·cases h
   ·split at h
    ·injection h;exact aO
    ·split at h
     ·rename_i j k d;injection h with g l;subst g;exact b i _ _ d
     ·exact c _ _ _ _ h
theorem zo (l:Str):∀(n i e q:Nat),tree l n i=.err e q->e=2\/e=3:=by
 intro n
 induction n with
 | zero=>
  intro i e q h;unfold tree at h;split at h
  ·injection h;exact aO
  ·cases h
 | succ n a=>
  intro i e q h;unfold tree at h;split at h
  ·exact Kh a _ _ _ _ _ h
  ·cases h
structure Item where
 pos:Nat
 word:Str
 fin:Nat
def oF (its:List Item)(at_:Nat):List Item:=its.modify at_ (fun it=>{ it with fin:=its.length })
def scan (l:Str):Nat->Nat->List Item->List Nat->Except (Nat × Nat) (List Item)
 | 0,i,_,_=>.error (2,i)
 | f+1,i,its,op=>
  match l[i]? with
  | none=>if op.length>0\/its.length=0 then .error (2,l.length) else .ok its
  | some c=>
   if iq c=true then scan l f (i+1) its op
   else if c=40 then
    if op.length=0/\its.length>0 then .error (2,i)
    else if op.length≥12 then .error (3,i)
    else scan l f (i+1) (its++[⟨i,[],its.length+1⟩]) (op++[its.length])
   else if op.length=0 then .error (2,i)
   else if c=41 then scan l f (i+1) (oF its (op.getLastD 0)) op.dropLast
   else if (fu l i).length=0 then .error (2,i)
   else scan l f (i+(fu l i).length) (its++[⟨i,fu l i,its.length+1⟩]) op
def ek (l:Str)(i:Nat)(its:List Item)(op:List Nat):Except (Nat × Nat) (List Item):=scan l (l.length+1-i) i its op
def read (l:Str):Except (Nat × Nat) (List Item):=ek l 0 [] []
theorem RD (l:Str):∀(f g i:Nat) (a:List Item) (b:List Nat),l.length<f+i->l.length<g+i->i<=l.length->scan l f i a b=scan l g i a b:=by
 intro f
 induction f with
 | zero=>intro g i a b d e h;omega
 | succ f c=>
  intro g i a b d e h;cases g with
  | zero=>omega
  | succ g=>
   unfold scan;cases hc:l[i]? with
   | none=>rfl
   | some j=>
    have k:=(List.getElem?_eq_some_iff.1 hc).1;have m:=wS (l:=l) (i:=i) aO;simp only;split
    ·exact c g (i+1) _ _ aO aO aO
    ·split
     ·split
      ·rfl
      ·split
       ·rfl
       ·exact c g (i+1) _ _ aO aO aO
     ·split
      ·rfl
      ·split
       ·exact c g (i+1) _ _ aO aO aO
       ·split
        ·rfl
        ·exact c g _ _ _ aO aO aO
theorem zT {a:List Item}(h:n=s.length):ek s n a l=if l.length>0\/a.length=0 then .error (2,s.length) else .ok a:=by
 subst h;unfold ek;rw[show s.length+1-s.length=0+1 by omega];unfold scan;exact aP
theorem mD {its:List Item}{op:List Nat}(h:n<s.length):ek s n its op =
 if iq s[n]=true then ek s (n+1) its op
 else if s[n]=40 then
  if op.length=0/\its.length>0 then .error (2,n)
  else if op.length≥12 then .error (3,n)
  else ek s (n+1) (its++[⟨n,[],its.length+1⟩]) (op++[its.length])
 else if op.length=0 then .error (2,n)
 else if s[n]=41 then ek s (n+1) (oF its (op.getLastD 0)) op.dropLast
 else if (fu s n).length=0 then .error (2,n)
 else ek s (n+(fu s n).length) (its++[⟨n,fu s n,its.length+1⟩]) op:=by
 have a:=wS (l:=s) (i:=n) aO;unfold ek;rw[show s.length+1-n=(s.length-n)+1 by omega]
 conv=>lhs;unfold scan
 rw[aD h];simp only;rw[show s.length+1-(n+1)=s.length-n by omega]
 repeat' split
 all_goals first
  | rfl
  | (rename_i b;exact RD s _ _ _ _ _ aO aO aO)
theorem uW {b:List Item}:∀(n i:Nat),n=s.length-i->i<=s.length->ek s i b l=ek s (blank s i) b l:=by
 intro n
 induction n with
 | zero=>intro i c hi;rw[BD aO]
 | succ n d=>
  intro i c hi
  by_cases a:iq (s[i]' aO)=true
  ·rw[mD aO,if_pos a,d (i+1) aO aO,Ab aO a]
  ·rw[z8 aO aiW]
mutual
def flat:Tr->Nat->List Item
 | .word p w,b=>[⟨p,w,b+1⟩]
 | .list p ks,b=>⟨p,[],b+1+(fD ks (b+1)).length⟩::fD ks (b+1)
def fD:List Tr->Nat->List Item
 | [],_=>[]
 | k::ks,b=>flat k b++fD ks (b+(flat k b).length)
end
theorem Qf (a:List Tr)(k:Tr):∀b,fD (a++[k]) b=fD a b++flat k (b+(fD a b).length):=by
 induction a with
 | nil=>intro b;simp[fD]
 | cons d a c=>intro b;simp[fD,c,Nat.add_assoc]
theorem Pq {a:Type}(f:a->a)(b:List a)(x:a)(c:List a):(b++x::c).modify b.length f=b++f x::c:=by
 induction b with
 | nil=>simp[List.modify_zero_cons]
 | cons y b d=>simpa[List.modify_succ_cons] using d
theorem IB (l:Str)(n:Nat)
 (z:∀(i:Nat) (a:List Item) (c:List Nat),je l i->c.length=12-n->n<=12->0<c.length->
  (∀t j,tree l n i=.ok t j->ek l i a c=ek l j (a++flat t a.length) c)/\(∀e q,tree l n i=.err e q->ek l i a c=.error (e,q)))
 (p:Nat) (a:List Item) (c:List Nat) (F:c.length=11-n) (G:n<=11) :
 ∀(m i:Nat) (b:List Tr),l.length<m+i->i<=l.length->(i<l.length->∀h:i<l.length,iq l[i]=false)->
  (∀t j,eQ (tree l n) l p m i b=.ok t j->ek l i (a++⟨p,[],a.length+1⟩::fD b (a.length+1)) (c++[a.length])=ek l j (a++flat t a.length) c)/\
  (∀e q,eQ (tree l n) l p m i b=.err e q->ek l i (a++⟨p,[],a.length+1⟩::fD b (a.length+1)) (c++[a.length])=.error (e,q)):=by
 intro m
 induction m with
 | zero=>intro i b A B;omega
 | succ m C=>
  intro i b A B D
  by_cases d:i<l.length
  ·have u:=D d d;rw[mD d,if_neg (by rw[u];simp)]
   by_cases f:l[i]=41
   ·rw[Es d f];refine⟨fun t j h=>?_,fun e q h=>ajo⟩;injection h with g k;subst g k;rw[if_neg (by rw[f];decide),if_neg aP,if_pos f]
    congr 1
    ·simp only[oF,flat,List.getLastD_eq_getLast?,List.getLast?_append,List.getLast?_singleton,Option.some_or,Option.getD_some];rw[Pq];simp only[List.length_append,List.length_cons]
     congr 3
     exact aO
    ·exact aP
   ·by_cases o:named l[i]=true\/l[i]=40
    ·have v:je l i:=⟨l[i],aD d,o⟩;have s:=z i (a++⟨p,[],a.length+1⟩::fD b (a.length+1)) (c++[a.length]) v aQ aO aP;rw[mD d,if_neg (by rw[u];simp)]at s;cases hone:tree l n i with
     | err e q=>
      rw[Kc d f o hone];refine⟨fun t j h=>ajo,fun H I h=>?_⟩;injection h with g k;subst g k;exact s.2 _ _ hone
     | ok r j=>
      rw[Kb d f o hone,s.1 r j hone];obtain⟨J,w⟩:=oh l n i r j v hone;rw[uW _ j rfl w]
      have E:(a++⟨p,[],a.length+1⟩::fD b (a.length+1)++flat r (a++⟨p,[],a.length+1⟩::fD b (a.length+1)).length)=a++⟨p,[],a.length+1⟩::fD (b++[r]) (a.length+1):=by
       rw[Qf];simp only[List.length_append,List.length_cons,List.append_assoc,List.cons_append];rw[show a.length+((fD b (a.length+1)).length+1)=a.length+1+(fD b (a.length+1)).length by omega]
      rw[E];have K:=nR l j;exact C (blank l j) (b++[r]) aO (pU w) (fun h _=>qU h)
    ·have x:l[i]≠40:=fun h=>o (.inr h);have y:named l[i]=false:=by simpa using fun h=>o (.inl h)
     rw[Kg d f y x];refine⟨fun t j h=>ajo,fun e q h=>?_⟩;injection h with g k;subst g k;rw[if_neg x,if_neg aP,if_neg f,if_pos (by rw[xI d y];rfl)]
  ·have:i=l.length:=aO;rw[Ke aO,zT this];refine⟨fun t j h=>ajo,fun e q h=>?_⟩;injection h with g k
   subst g k;rw[if_pos aP,this]
theorem Ja (h:n<s.length)(a:named s[n]=true):iq s[n]=false/\s[n]≠40/\s[n]≠41:=by
 generalize s[n]=c at a;refine⟨?_,?_,?_⟩
 ·by_cases h:iq c=true
  ·simp only[iq,Bool.or_eq_true,beq_iff_eq]at h;rcases h with h|h<;>(subst h;revert a;decide)
  ·exact ajq
 ·intro h;subst h;revert a;decide
 ·intro h;subst h;revert a;decide
theorem h00 {p:Prop}(b:0<n\/(m=0/\p))(h:¬p):¬n=0:=by
 rcases b with a|a
 ·exact aO
 ·exact absurd a.2 h
theorem Rk (l:Str):∀(n i:Nat) (d:List Item) (e:List Nat),je l i->e.length=12-n->n<=12->(0<e.length\/(d.length=0/\l[i]?=some 40))->
 (∀t j,tree l n i=.ok t j->ek l i d e=ek l j (d++flat t d.length) e)/\(∀g q,tree l n i=.err g q->ek l i d e=.error (g,q)):=by
 intro n
 induction n with
 | zero=>
  intro i d e f y z r;have b:=f.lt
  by_cases a:l[i]?=some 40
  ·have k:l[i]=40:=by rw[aD b]at a;simpa using a
   rw[wV a];refine⟨fun t j h=>ajo,fun g q h=>?_⟩;injection h with m o;subst m o;rw[mD b,if_neg (by rw[k];decide),if_pos k,if_neg aO,if_pos aO]
  ·exact ald
 | succ n C=>
  intro i d e f y z r;have b:=f.lt
  by_cases a:l[i]?=some 40
  ·have k:l[i]=40:=by rw[aD b]at a;simpa using a
   rw[sV a,mD b,if_neg (by rw[k];decide),if_pos k,if_neg (by rcases r with h|h<;>omega),if_neg aO];rw[uW _ (i+1) rfl aO];have G:=nR l (i+1);have:=IB l n (fun i d e f D E F=>C i d e f D E (.inl F)) i d e aO aO (l.length+1) (blank l (i+1)) [] aO (pU aO) (fun h _=>qU h);simpa[fD] using this
  ·exact ald
theorem OT (l:Str):read l=(match parse l with|.error x=>.error x|.ok t=>.ok (flat t 0)):=by
 unfold read parse;rw[uW _ 0 rfl aO];have o:=pU (l:=l) (i:=0) aO
 by_cases a:l[blank l 0]?=some 40
 ·have b:blank l 0<l.length:=(List.getElem?_eq_some_iff.1 a).1;have d:je l (blank l 0):=⟨40,a,.inr rfl⟩;obtain⟨h,i⟩:=Rk l 12 (blank l 0) [] [] d rfl aO (.inr ⟨rfl,a⟩);rw[if_pos a];cases ht:tree l 12 (blank l 0) with
  | err k p=>simp only;exact i k p ht
  | ok t j=>
   simp only;rw[h t j ht];obtain⟨q,e⟩:=oh l 12 _ t j d ht;rw[uW _ j rfl e];have f:(flat t 0).length≠0:=by cases t<;>simp[flat]
   by_cases c:blank l j<l.length
   ·rw[if_pos c,mD c,if_neg (by rw[qU c];simp)]
    by_cases g:l[blank l j]=40
    ·rw[if_pos g,if_pos ⟨rfl,by simpa using Nat.pos_of_ne_zero f⟩]
    ·rw[if_neg g,if_pos aP]
   ·have:=pU e;rw[if_neg c,zT aO,if_neg ajB];exact aP
 ·rw[if_neg a]
  by_cases b:blank l 0<l.length
  ·have m:l[blank l 0]≠40:=fun n=>a (by rw[aD b,n]);rw[mD b,if_neg (by rw[qU b];simp),if_neg m,if_pos aP]
  ·rw[zT aO,if_pos (.inr rfl),show blank l 0=l.length by omega]
def qN:Nat->Str->Option Str
 | d,[]=>if d=0 then some [] else none
 | d,c::r=>
  if c=40 then qN (d+1) r
  else if c=41 then(if d=0 then some (c::r) else if d=1 then some r else qN (d-1) r)
  else if c=32/\d=0 then some (c::r)
  else qN d r
def Ends (r:Str):Prop:=r=[]\/(∃u,r=32::u)\/(∃u,r=41::u)
def Tok (x:Str):Prop:=(∀d r,1<=d->qN d (x++r)=qN d r)/\(∀r,Ends r->qN 0 (x++r)=some r)
def oG (x:Str):Prop:=∀c∈x,c≠40/\c≠41/\c≠32
theorem BA (h:oG s)(d:Nat)(r:Str):qN d (s++r)=qN d r:=by
 induction s with
 | nil=>rfl
 | cons c s a=>
  obtain⟨b,e,f⟩:=h c List.mem_cons_self;rw[List.cons_append]
  conv=>lhs;unfold qN
  rw[if_neg b,if_neg e,if_neg (by rintro ⟨g,_⟩;exact f g)];exact a (fun c i=>h c (List.mem_cons_of_mem _ i))
theorem WJ (h:Ends s):qN 0 s=some s:=by
 rcases h with rfl|⟨u,rfl⟩|⟨u,rfl⟩<;>simp[qN]
theorem Tok.word (h:oG s):Tok s:=⟨fun d r _=>BA h d r,fun r a=>by rw[BA h,WJ a]⟩
variable {q:List Term}
theorem UU (h:∀a∈l,Tok (fe q a))(d:Nat)(b:1<=d)(r:Str):qN d (tail q l++r)=qN d r:=by
 induction l with
 | nil=>simp[tail]
 | cons a l c=>
  have e:=(h a List.mem_cons_self).1 d;simp only[tail,List.flatMap_cons,List.cons_append,List.append_assoc]
  conv=>lhs;unfold qN
  rw[if_neg aR,if_neg aR,if_neg aO,e _ b];exact c (fun f g=>h f (List.mem_cons_of_mem _ g))
theorem Tok.list (b:oG s)(h:∀c∈l,Tok (fe q c)):Tok (40::s++tail q l++[41]):=by
 have a:∀d r,qN d (40::s++tail q l++[41]++r)=qN (d+1) (41::r):=by
  intro d r;have:(40::s++tail q l++[41]++r)=40::(s++(tail q l++(41::r))):=aP;rw[this]
  conv=>lhs;unfold qN
  rw[if_pos rfl,BA b,UU h _ aO]
 refine⟨fun d r e=>?_,fun r _=>?_⟩
 ·rw[a]
  conv=>lhs;unfold qN
  rw[if_neg aR,if_pos rfl,if_neg aO,if_neg aO];rfl
 ·rw[a]
  conv=>lhs;unfold qN
  rw[if_neg aR,if_pos rfl,if_neg aO,if_pos aO]
theorem Tok.written (a:oG s)(h:∀b∈l,Tok (fe q b)):Tok (written q s l):=by
 unfold Doc.written;split
 ·exact Tok.word a
 ·exact Tok.list a h
variable {t:Str}
theorem Tok.head {r a:Str}(c:Tok s)(d:Tok t)(e:Ends r)(f:Ends a)(h:s++r=t++a):s=t/\r=a:=by
 have b:=c.2 r e;rw[h,d.2 a f]at b;injection b with b
 subst b;exact⟨List.append_cancel_right h,rfl⟩
theorem xB (b:List Term)(a:List Nat):Ends (tail b a++[41]):=by
 cases a with
 | nil=>right;right;exact⟨[],rfl⟩
 | cons c a=>right;left;exact⟨_,by simp[tail];rfl⟩
theorem UT:∀(as a:List Nat),(∀b∈as,Tok (fe q b))->(∀b∈a,Tok (fe q b))->tail q as++[41]=tail q a++[41]->as.map (fe q)=a.map (fe q):=by
 intro as
 induction as with
 | nil=>
  intro a _ _ h;cases a with
  | nil=>rfl
  | cons c a=>simp[tail]at h
 | cons b as g=>
  intro a e f h;cases a with
  | nil=>simp[tail]at h
  | cons c a=>
   have h:fe q b++(tail q as++[41])=fe q c++(tail q a++[41]):=by
    simpa[tail] using h
   obtain⟨i,j⟩:=(e b List.mem_cons_self).head (f c List.mem_cons_self) (xB _ _) (xB _ _) h;simp only[List.map_cons,i,g a (fun x d=>e x (List.mem_cons_of_mem _ d)) (fun x d=>f x (List.mem_cons_of_mem _ d)) j]
theorem Mk {as:List Nat}(d:oG s)(e:oG t)(f:∀b∈as,Tok (fe q b))(g:∀b∈l,Tok (fe q b))
 (h:written q s as=written q t l):s=t/\as.map (fe q)=l.map (fe q):=by
 unfold written at h
 by_cases c:as.length=0
 ·have i:as=[]:=List.eq_nil_of_length_eq_zero c;rw[if_pos c]at h
  by_cases a:l.length=0
  ·have j:l=[]:=List.eq_nil_of_length_eq_zero a;rw[if_pos a]at h;subst i j;exact⟨h,rfl⟩
  ·rw[if_neg a]at h;exact absurd rfl (d 40 (by rw[h];simp)).1
 ·rw[if_neg c]at h
  by_cases a:l.length=0
  ·rw[if_pos a]at h;exact absurd rfl (e 40 ai4).1
  ·rw[if_neg a]at h;have h:s++(tail q as++[41])=t++(tail q l++[41]):=ajq;obtain⟨k,m⟩:=(Tok.word d).head (Tok.word e) (xB _ _) (xB _ _) h;exact⟨k,UT as l f g m⟩
def gM (op:Nat):Str:=
 if op=1 then lV else if op=2 then kz else if op=3 then [110,111,116] else if op=4 then [97,110,100] else if op=5 then [111,114] else if op=6 then [120,111,114]
 else if op=7 then [61,62] else if op=8 then [61] else if op=9 then [100,105,115,116,105,110,99,116] else if op=10 then [60,61] else if op=11 then [60]
 else if op=12 then [105,116,101] else if op=15 then [45] else if op=16 then [43] else if op=17 then [45] else if op=18 then [42] else []
def nameOf (ss:List Sym)(t:Term):Str:=if t.op=13 then jQ ss t.sym else if t.op=14 then t.text else gM t.op
structure vg (s:Sym):Prop where
 name:forbidden s.name=false
 named:∀c∈s.name,named c=true
 args:∀a∈s.args,a=2\/a=3
 few:s.args.length<=2
 sort:s.sort=1\/s.sort=2\/s.sort=3
inductive Made (ss:List Sym) (ts:List Term) (t:Term):Prop where
 | bool (h:t.op=1\/t.op=2) (ha:t.args=[]) (hs:t.sort=1) (hy:t.sym=0)
 | num (h:t.op=14) (ha:t.args=[]) (hs:t.sort=2) (hy:t.sym=0) (hd:digits t.text=true)
 | app (h:t.op=13) (hy:t.sym<ss.length) (ha:t.args.map (dF ts)=gK ss t.sym) (hs:t.sort=iN ss t.sym)
 | form (f:Form) (hf:f∈forms) (h:t.op=f.op) (hp:gM f.op=f.print) (ha:fits ts f t.args=some t.sort) (hy:t.sym=0) (hm:f.op=18->number ts (t.args.getD 0 0)=true)
structure pz (ss:List Sym)(ts:List Term)(k:Nat)(t:Term):Prop where
 args:∀a∈t.args,a<k
 text:t.text=written ts (nameOf ss t) t.args
 made:Made ss ts t
structure gP (ss:List Sym)(ts:List Term):Prop where
 syms:∀s∈ss,vg s
 names:∀i j (hi:i<ss.length) (hj:j<ss.length),ss[i].name=ss[j].name->i=j
 few:ss.length<=8
 terms:∀k (h:k<ts.length),pz ss ts k ts[k]
 texts:∀i j (hi:i<ts.length) (hj:j<ts.length),ts[i].text=ts[j].text->i=j
 many:ts.length<=80
 long:∀t∈ts,t.text.length<=800
theorem oG.JN (h:∀c∈s,named c=true):oG s:=by
 intro c a;have:=h c a;refine⟨?_,?_,?_⟩<;>(intro e;subst e;revert this;decide)
theorem jS:∀f∈forms,f.op≠1/\f.op≠2/\f.op≠13/\f.op≠14/\3<=f.op/\f.op<=18:=aR
theorem JM:∀a:Fin 19,(gM a.1).all named=true:=aR
theorem MP (h:18<n):gM n=[]:=by
 unfold gM
 simp[show ¬n=1 by omega,show ¬n=2 by omega,show ¬n=3 by omega,show ¬n=4 by omega,show ¬n=5 by omega,show ¬n=6 by omega,show ¬n=7 by omega,show ¬n=8 by omega,show ¬n=9 by omega,
  show ¬n=10 by omega,show ¬n=11 by omega,show ¬n=12 by omega,show ¬n=15 by omega,show ¬n=16 by omega,show ¬n=17 by omega,show ¬n=18 by omega]
theorem UI (a:Nat):oG (gM a):=by
 apply oG.JN
 by_cases h:a<19
 ·have:=JM ⟨a,h⟩;exact List.all_eq_true.1 this
 ·rw[MP aO];intro c b;cases b
theorem I9 (h:digits s=true):oG s:=by
 unfold digits at h;simp only[Bool.and_eq_true]at h;intro c a;have:=List.all_eq_true.1 h.2 c a;unfold digit at this;simp only[Bool.and_eq_true,decide_eq_true_eq]at this;refine⟨?_,?_,?_⟩<;>(intro e;subst e;simp at this)
variable {g:List Sym}
theorem zk {t:Term}(d:∀s∈g,vg s)(c:Made g q t):oG (nameOf g t):=by
 unfold nameOf;split
 ·rename_i h;cases c with
  | app _ e _ _=>
   unfold jQ;rw[aD e];exact oG.JN (d _ aP).named
  | bool a=>omega
  | num a=>omega
  | form f b a=>
   have:=jS f b;exact aO
 ·split
  ·rename_i h;cases c with
   | num _ _ _ _ i=>exact I9 i
   | app a=>omega
   | bool a=>omega
   | form f b a=>
    have:=jS f b;exact aO
  ·exact UI _
theorem rW (h:n<q.length):fe q n=q[n].text:=by unfold fe;rw[aD h]
theorem gP.tok (h:gP g q):∀(k:Nat),k<q.length->Tok (fe q k):=by
 intro k
 induction k using Nat.strongRecOn with
 | _ k e=>
  intro b;rw[rW b];have a:=h.terms k b;rw[a.text];exact Tok.written (zk h.syms a.made) (fun c d=>e c (a.args c d) (Nat.lt_trans (a.args c d) b))
end Doc
namespace dn
variable {m n:Nat}{x:List UInt8}
def dv (c:UInt8):Nat:=c.toNat-48
def Dg (l:List UInt8):Prop:=∀c∈l,48<=c.toNat/\c.toNat<=57
def val (l:List UInt8):Nat:=l.foldl (fun n c=>10*n+dv c) 0
def oW (n:Nat):UInt8:=UInt8.ofNat (48+n % 10)
theorem tX (n:Nat):(oW n).toNat=48+n % 10:=by
 unfold oW;rw[UInt8.toNat_ofNat'];have:=Nat.mod_lt n (show 0<10 by omega);exact aO
theorem EK (n:Nat):dv (oW n)=n % 10:=by unfold dv;rw[tX];omega
theorem EM (n:Nat):48<=(oW n).toNat/\(oW n).toNat<=57:=by rw[tX];omega
@[simp] theorem Zo:val []=0:=rfl
theorem Hg (l:List UInt8)(n:Nat):l.foldl (fun n c=>10*n+dv c) n=n*10 ^ l.length+val l:=by
 induction l generalizing n with
 | nil=>simp
 | cons c l a=>
  unfold val;simp only[List.foldl_cons,List.length_cons];rw[a,a (10*0+dv c),Nat.pow_succ]
  have:(10*n+dv c)*10 ^ l.length=n*(10 ^ l.length*10)+dv c*10 ^ l.length:=by
   rw[Nat.add_mul,Nat.mul_comm 10 n,Nat.mul_assoc,Nat.mul_comm 10]
  rw[this];exact aQ
theorem rT (c:UInt8)(l:List UInt8):val (c::l)=dv c*10 ^ l.length+val l:=by
 show List.foldl _ _ _=_;rw[List.foldl_cons,Hg];exact aP
theorem lW (l:List UInt8)(c:UInt8):val (l++[c])=10*val l+dv c:=by
 unfold val;rw[List.foldl_append];exact aP
theorem val_append (a b:List UInt8):val (a++b)=val a*10 ^ b.length+val b:=by
 show List.foldl _ _ _=_;rw[List.foldl_append,Hg];rfl
theorem oZ:Dg []:=by intro c h;cases h
theorem sF {c:UInt8}(h:48<=c.toNat/\c.toNat<=57)(b:Dg x):Dg (c::x):=by
 intro d a;rcases List.mem_cons.1 a with rfl|a
 ·exact h
 ·exact b d a
theorem xC {b:List UInt8}(c:Dg x)(d:Dg b):Dg (x++b):=by
 intro a e;rcases List.mem_append.1 e with h|h
 ·exact c a h
 ·exact d a h
theorem vF {c:UInt8}(h:Dg (c::x)):Dg x:=fun a b=>h a (List.mem_cons_of_mem _ b)
theorem F5 {c:UInt8}(h:Dg (c::x)):48<=c.toNat/\c.toNat<=57:=h c List.mem_cons_self
theorem Z7 (h:Dg x)(k:Nat):Dg (x.take k):=fun a b=>h a (List.mem_of_mem_take b)
theorem agy (h:Dg x)(k:Nat):Dg (x.drop k):=fun a b=>h a (List.mem_of_mem_drop b)
theorem zV {c:UInt8}(h:48<=c.toNat/\c.toNat<=57):dv c<=9:=by unfold dv;omega
theorem qC (h:Dg x):val x<10 ^ x.length:=by
 induction x with
 | nil=>simp
 | cons c x a=>
  rw[rT,List.length_cons,Nat.pow_succ];have b:=zV (F5 h);have d:=a (vF h);have e:dv c*10 ^ x.length<=9*10 ^ x.length:=Nat.mul_le_mul_right _ b;exact aO
def D (n:Nat):List UInt8:=if _h:n=0 then [] else D (n / 10)++[oW n]
termination_by n
decreasing_by omega
theorem iL:D 0=[]:=by rw[D];simp
theorem sS (h:0<n):D n=D (n / 10)++[oW n]:=by rw[D];simp;intro a;omega
theorem kT (n:Nat):val (D n)=n:=by
 induction n using Nat.strongRecOn with
 | ind n a=>
  by_cases h:n=0
  ·subst h;rw[iL];rfl
  ·rw[sS aO,lW,a (n / 10) aO,EK];exact aO
theorem mP (n:Nat):Dg (D n):=by
 induction n using Nat.strongRecOn with
 | ind n a=>
  by_cases h:n=0
  ·subst h;rw[iL];exact oZ
  ·rw[sS aO];exact xC (a (n / 10) aO) (sF (EM n) oZ)
def rH (l:List UInt8):Prop:=l.head?≠some 48
theorem G9 {b:List UInt8}(h:x≠[]):(x++b).head?=x.head?:=by cases x with
 | nil=>exact absurd rfl h
 | cons a x=>rfl
theorem pY:D n=[]↔n=0:=by
 constructor
 ·intro h
  by_cases a:n=0
  ·exact a
  ·rw[sS aO]at h;exact ajo
 ·rintro rfl;exact iL
theorem CG (a:0<n)(h:n<10):D n=[oW n]:=by
 rw[sS a,show n / 10=0 by omega,iL];rfl
theorem X3 (n:Nat):rH (D n):=by
 induction n using Nat.strongRecOn with
 | ind n a=>
  by_cases h:n=0
  ·subst h;rw[iL];simp[rH]
  ·by_cases b:n<10
   ·rw[CG aO b];simp only[rH,List.head?_cons,ne_eq,Option.some.injEq];intro c;have:=congrArg UInt8.toNat c;rw[tX]at this;have f:(48:UInt8).toNat=48:=rfl;exact aO
   ·rw[sS aO];have d:D (n / 10)≠[]:=fun e=>by have:=pY.1 e;omega
    have:=a (n / 10) aO;unfold rH at *;rw[G9 d];exact this
theorem jM {a b:UInt8}(h:a.toNat=b.toNat):a=b:=UInt8.toNat_inj.1 h
theorem abS {c:UInt8}(h:48<=c.toNat/\c.toNat<=57):oW (dv c)=c:=by
 apply jM;rw[tX];unfold dv;exact aO
theorem Z6 (n:Nat)(c:UInt8)(h:48<=c.toNat/\c.toNat<=57):oW (10*n+dv c)=c:=by
 apply jM;rw[tX];unfold dv;exact aO
theorem Bw (j:Dg x)(a:rH x):x=D (val x):=by
 suffices H:∀n,∀x:List UInt8,x.length=n->Dg x->rH x->x=D (val x) from H _ x rfl j a
 intro n
 induction n with
 | zero=>intro x b _ _;have:x=[]:=List.length_eq_zero_iff.1 b;subst this;simp[iL]
 | succ n k=>
  intro x b h a;have i:x≠[]:=fun e=>by subst e;simp at b
  obtain⟨p,c,rfl⟩:∃p c,x=p++[c]:=⟨x.dropLast,x.getLast i,(List.dropLast_concat_getLast i).symm⟩;have d:48<=c.toNat/\c.toNat<=57:=h c aP;have l:Dg p:=fun m o=>h m (by simp[o]);rw[lW]
  by_cases f:p=[]
  ·subst f
   have:0<dv c:=by
    simp[rH]at a;unfold dv;rcases Nat.lt_or_ge 48 c.toNat with q|q
    ·exact aO
    ·exact absurd (jM (show c.toNat=(48:UInt8).toNat by rw[show(48:UInt8).toNat=48 from rfl];omega)) a
   rw[sS aQ];simp only[Zo,Nat.mul_zero,Nat.zero_add];rw[show dv c / 10=0 by have:=zV d;omega,iL,abS d]
  ·have r:rH p:=by
    unfold rH at *
    rwa [G9 f]at a
   have e:=k p (by simp at b;exact b) l r
   have s:0<val p:=by
    rcases Nat.eq_zero_or_pos (val p) with g|g
    ·rw[g,iL]at e;exact absurd e f
    ·exact g
   rw[sS aO,Z6 _ _ d,show(10*val p+dv c) / 10=val p by have:=zV d;omega,<-e]
def plain:List UInt8->List UInt8
 | []=>[]
 | c::l=>if c=48 then plain l else c::l
theorem RZ (l:List UInt8):rH (plain l):=by
 induction l with
 | nil=>simp[plain,rH]
 | cons c l a=>
  unfold plain;split
  ·exact a
  ·simp only[rH,List.head?_cons,ne_eq,Option.some.injEq];assumption
theorem JC (h:Dg x):Dg (plain x):=by
 induction x with
 | nil=>exact h
 | cons c x a=>
  unfold plain;split
  ·exact a (vF h)
  ·exact h
theorem A8 (l:List UInt8):val (plain l)=val l:=by
 induction l with
 | nil=>rfl
 | cons c l a=>
  unfold plain;split
  ·rename_i h;subst h;rw[a,rT];simp[dv,show(48:UInt8).toNat=48 from rfl]
  ·rfl
theorem vQ (h:Dg x):plain x=D (val x):=by
 rw[Bw (JC h) (RZ x),A8]
theorem A9 (l:List UInt8):(plain l).length<=l.length:=by
 induction l with
 | nil=>simp[plain]
 | cons c l a=>
  unfold plain;split
  ·exact aQ
  ·exact aP
def at_ (l:List UInt8)(k:Nat):Nat:=if k<l.length then dv (l.getD (l.length-1-k) 0) else 0
theorem I1 (h:Dg x)(k:Nat):at_ x k<=9:=by
 unfold at_;split
 ·rw[List.getD_eq_getElem?_getD,aD aO];exact zV (h _ aP)
 ·exact aO
theorem at_eq (h:Dg x)(k:Nat):at_ x k=val x / 10 ^ k % 10:=by
 suffices H:∀k,∀x:List UInt8,Dg x->at_ x k=val x / 10 ^ k % 10 from H k x h
 intro k
 induction k with
 | zero=>
  intro x b
  by_cases a:x=[]
  ·subst a;simp[at_]
  ·obtain⟨p,c,rfl⟩:∃p c,x=p++[c]:=⟨x.dropLast,x.getLast a,(List.dropLast_concat_getLast a).symm⟩;have d:48<=c.toNat/\c.toNat<=57:=b c aP;rw[lW];simp[at_];have:=zV d;exact aO
 | succ k f=>
  intro x b
  by_cases a:x=[]
  ·subst a;simp[at_]
  ·obtain⟨p,c,rfl⟩:∃p c,x=p++[c]:=⟨x.dropLast,x.getLast a,(List.dropLast_concat_getLast a).symm⟩;have d:48<=c.toNat/\c.toNat<=57:=b c aP;have g:Dg p:=fun i j=>b i (by simp[j])
   have l:at_ (p++[c]) (k+1)=at_ p k:=by
    unfold at_;simp only[List.length_append,List.length_cons,List.length_nil]
    by_cases e:k<p.length
    ·rw[if_pos aO,if_pos e];rw[List.getD_eq_getElem?_getD,List.getD_eq_getElem?_getD,List.getElem?_append_left aO];rw[show p.length+(0+1)-1-(k+1)=p.length-1-k by omega]
    ·rw[if_neg aO,if_neg e]
   rw[l,f p g,lW,Nat.pow_succ,Nat.mul_comm (10 ^ k) 10,<-Nat.div_div_eq_div_mul];rw[show(10*val p+dv c) / 10=val p by have:=zV d;omega]
theorem lG (h:n<10 ^ m):(D n).length<=m:=by
 induction m generalizing n with
 | zero=>rw[show n=0 by simp at h;omega,iL];simp
 | succ m a=>
  by_cases b:n=0
  ·subst b;rw[iL];exact aP
  ·rw[sS aO];have:=a (n:=n / 10) (by rw[Nat.pow_succ]at h;omega);exact aQ
theorem Ch (n:Nat):n<10 ^ (D n).length:=by have:=qC (mP n);rwa [kT]at this
theorem agu (h:0<n):10 ^ ((D n).length-1)<=n:=by
 induction n using Nat.strongRecOn with
 | ind n a=>
  by_cases b:n<10
  ·rw[CG h b];exact aQ
  ·rw[sS h];have:=a (n / 10) aO aO
   have c:(D (n / 10)).length≠0:=fun e=>by
    have:=pY.1 (List.length_eq_zero_iff.1 e);exact aO
   simp only[List.length_append,List.length_cons,List.length_nil];rw[show(D (n / 10)).length+(0+1)-1=(D (n / 10)).length-1+1 by omega,Nat.pow_succ];exact aO
theorem lh (h:n<=m):(D n).length<=(D m).length:=lG (Nat.lt_of_le_of_lt h (Ch m))
theorem Iq (a b:Nat):(D (a+b)).length<=max (D a).length (D b).length+1:=by
 apply lG;have c:=Ch a;have d:=Ch b;have e:10 ^ (D a).length<=10 ^ (max (D a).length (D b).length):=Nat.pow_le_pow_right aO aO;have f:10 ^ (D b).length<=10 ^ (max (D a).length (D b).length):=Nat.pow_le_pow_right aO aO;rw[Nat.pow_succ];exact aO
theorem xH (a b:Nat):(D (a*b)).length<=(D a).length+(D b).length:=by
 apply lG;have c:=Ch a;have e:=Ch b;rw[Nat.pow_add]
 by_cases d:b=0
 ·subst d;rw[Nat.mul_zero];exact Nat.mul_pos (Nat.pow_pos aO) (Nat.pow_pos aO)
 ·exact Nat.mul_lt_mul_of_lt_of_le c aO aO
end dn
