import Derived.Test.YtjiagbaaikifpaaGreatDoorGDoc0
set_option maxRecDepth 100000
set_option maxHeartbeats 16000000
namespace Doc
variable {S:dO}{g:List Sym}{l:List Nat}{n:Nat}{q:List Term}{r:List Tr}{s:Str}
def gX:List Str:=[[110,111,116],[97,110,100],[111,114],[120,111,114],[61,62],[61],[100,105,115,116,105,110,99,116],[60,61],[60],[62,61],[62],[105,116,101],[43],[45],[42]]
def kD (w:Str):Nat:=match gX.findIdx? (λn=>n==w) with|some i=>5+i|none=>0
def gY (sorts:List Nat)(s least most:Nat):Bool:=decide (least<=sorts.length)&&decide (sorts.length<=most)&&sorts.all (λx=>x==s)
def jv (s:Nat)(b:Bool):Nat:=if b=true then s else 0
def gH (op:Nat)(sorts:List Nat):Nat:=
 if op=5 then jv 1 (gY sorts 1 1 1)
 else if op=6\/op=7 then jv 1 (gY sorts 1 2 4)
 else if op=8\/op=9 then jv 1 (gY sorts 1 2 2)
 else if op=10 then jv 1 (decide (sorts.length=2)&&(sorts.getD 0 0==sorts.getD 1 0))
 else if op=11 then jv 1 (gY sorts 2 2 4||gY sorts 3 2 4)
 else if op=12\/op=13\/op=14\/op=15 then jv 1 (gY sorts 2 2 2)
 else if op=16 then(if sorts.length≠3\/sorts.getD 0 0≠1\/sorts.getD 1 0≠sorts.getD 2 0 then 0 else sorts.getD 1 0)
 else if op=17 then jv 2 (gY sorts 2 2 4)
 else if op=18 then jv 2 (gY sorts 2 1 2)
 else if op=19 then jv 2 (gY sorts 2 2 2)
 else 0
def kC (op n:Nat):Nat:=
 if op=5 then 3 else if op=6 then 4 else if op=7 then 5 else if op=8 then 6 else if op=9 then 7 else if op=10 then 8 else if op=11 then 9 else if op=12 then 10 else if op=13 then 11
 else if op=16 then 12 else if op=17 then 16 else if op=18 then(if n=1 then 15 else 17) else if op=19 then 18 else 0
def jb (op:Nat):Nat:=if op=14 then 12 else if op=15 then 13 else op
def kR (op:Nat)(args:List Nat):List Nat:=if op=14\/op=15 then swap args else args
def jI {α:Type}(nt:Term->Except Nat α)(ts:List Term)(op:Nat)(args:List Nat):Except Nat α:=
 if gH op (args.map (dY ts))=0 then .error 7
 else if op=19 then
  if number ts (args.getD 0 0)=true then nt ⟨written ts [42] args,18,2,0,args⟩
  else if number ts (args.getD 1 0)=true then nt ⟨written ts [42] (swap args),18,2,0,swap args⟩
  else .error 8
 else nt ⟨written ts (iR (kC (jb op) args.length)) (kR op args),kC (jb op) args.length,gH op (args.map (dY ts)),0,kR op args⟩
theorem xS {f:Form}(b:f.args≠0)(c:f.op≠12)(d:f.op≠9)(e:f.sort≠0) :
 fits q f l=if gY (l.map (dY q)) f.args f.least f.most=true then some f.sort else none:=by
 unfold fits Form.want Form.from_ gY;simp only[b,c,d,e,if_false,false_and,List.drop_zero,List.length_map,List.all_map]
 by_cases a:l.length<f.least\/l.length>f.most
 ·rw[if_pos a]
  have:(decide (f.least<=l.length)&&decide (l.length<=f.most))=false:=by
   simp only[Bool.and_eq_false_iff,decide_eq_false_iff_not];exact aR
  rw[this];exact aW
 ·rw[if_neg a];have g:f.least<=l.length:=aR;have i:l.length<=f.most:=aR;simp only[g,i,decide_true,Bool.true_and,Function.comp_def];cases h:l.all (λj=>dY q j==f.args)<;>simp
theorem Kq (h:kD s≠0):s∈gX:=by
 unfold kD at h;cases e:gX.findIdx? (λn=>n==s) with
 | none=>rw[e]at h;simp at h
 | some i=>
  rw[List.findIdx?_eq_some_iff_getElem]at e;obtain⟨hi,a,_⟩:=e;have:gX[i]=s:=amr;rw[<-this];exact aW
theorem Nw:lT s=true↔s∈gX:=by
 constructor
 ·intro h;unfold lT at h;obtain⟨f,a,b⟩:=List.any_eq_true.1 h;have:f.word=s:=amJ;have c:∀f∈forms,f.word∈gX:=aY;rw[<-this];exact c f a
 ·have:∀s∈gX,lT s=true:=aY;exact this s
theorem WH:∀w∈gX,kD w≠0:=aY
theorem xL (w:Str):lT w=true↔kD w≠0:=Nw.trans ⟨WH w,Kq⟩
def jN {α:Type}(nt:Term->Except Nat α)(ts:List Term)(w:Str)(args:List Nat):List Form->Except Nat α
 | []=>.error 7
 | f::fs=>
  if f.word=w then
   match fits ts f args with
   | none=>jN nt ts w args fs
   | some sort=>
    match turned ts w f args with
    | none=>.error 8
    | some l=>nt ⟨written ts f.print l,f.op,sort,0,l⟩
  else jN nt ts w args fs
def kN {α:Type}(nt:Term->Except Nat α)(ts:List Term)(w:Str)(args:List Nat):Except Nat α:=jN nt ts w args forms
theorem Ws (a:List Term)(w:Str)(c:List Nat):∀b,jY a w c b=jN (note a) a w c b:=by
 intro b
 induction b with
 | nil=>rfl
 | cons f b e=>
  unfold jY jN;rw[e]
  by_cases d:f.word=w
  ·rw[if_pos d,if_pos d];cases fits a f c with
   | none=>rfl
   | some s=>simp only;cases turned a w f c<;>rfl
  ·rw[if_neg d,if_neg d]
theorem Qt {t:Term}(e:∀c∈l,c<q.length):∀(a:List Form),(∀f∈a,f∈forms)->jN Except.ok q s l a=.ok t->rU g q q.length t/\t.args.length<=4:=by
 intro a
 induction a with
 | nil=>intro _ h;cases h
 | cons f a d=>
  intro i h;have b:=i f List.mem_cons_self;have d:=d (λm n=>i m (List.mem_cons_of_mem _ n));unfold jN at h;split at h
  ·rename_i o;split at h
   ·exact d h
   ·rename_i C p;split at h
    ·cases h
    ·rename_i r u;obtain⟨j,v,w⟩:=Fh b o p u;obtain⟨k,D,E⟩:=Ib f b
     have x:∀c∈r,c<q.length:=by
      rcases v with rfl|⟨rfl,y⟩
      ·exact e
      ·obtain⟨c,F,rfl,z⟩:=BR y;rw[z];intro A B;exact e A (by simpa[or_comm] using B)
     have G:=jO j;have H:=nX f b;have I:=kM f b;injection h with h
     subst h;refine⟨⟨x,?_,.form f b rfl k j rfl w⟩,anU⟩;simp only[nameOf];rw[if_neg aR,if_neg aR,k]
  ·exact d h
section
variable {α:Type} {nt:Term->Except Nat α}
theorem yI {ts:List Term}{args:List Nat}:∀(pre a:List Form),(∀g∈pre,g.word≠s)->jN nt ts s args (pre++a)=jN nt ts s args a:=by
 intro pre
 induction pre with
 | nil=>intro a _;rfl
 | cons g pre b=>
  intro a h;rw[List.cons_append]
  conv=>lhs;unfold jN
  rw[if_neg (h g List.mem_cons_self)];exact b a (λx c=>h x (List.mem_cons_of_mem _ c))
theorem MO (a:List Form)(h:∀g∈a,g.word≠s):jN nt q s l a=.error 7:=by
 have:=yI (nt:=nt) (ts:=q) (args:=l) a [] h;rw[List.append_nil]at this;rw[this];rfl
def pW {α:Type}(nt:Term->Except Nat α)(ts:List Term)(f:Form)(args:List Nat):Except Nat α:=
 match fits ts f args with
 | none=>.error 7
 | some s=>match turned ts f.word f args with
  | none=>.error 8
  | some l=>nt ⟨written ts f.print l,f.op,s,0,l⟩
theorem qj (a:List Term)(b:List Nat)(pre c:List Form)(f:Form)(d:forms=pre++f::c)(e:∀g∈pre,g.word≠f.word)(h:∀g∈c,g.word≠f.word):kN nt a f.word b=pW nt a f b:=by
 unfold kN pW;rw[d,yI pre _ e]
 conv=>lhs;unfold jN
 rw[if_pos rfl];cases fits a f b with
 | none=>simp only;exact MO c h
 | some s=>rfl
theorem R8 {f:Form}(c:f.args≠0)(d:f.op≠12)(e:f.op≠9)(b:f.sort≠0)(a:Nat)(g:gH a (l.map (dY q))=jv f.sort (gY (l.map (dY q)) f.args f.least f.most))
 (i:turned q f.word f l=some (kR a l)) (j:kC (jb a) l.length=f.op) (k:iR f.op=f.print) (m:a≠19):pW nt q f l=jI nt q a l:=by
 unfold pW jI;rw[xS c d e b,g,i,j,k,if_neg m];cases h:gY (l.map (dY q)) f.args f.least f.most
 ·simp[jv]
 ·simp[jv,b]
theorem EH {f:Form}(b:f.op≠18)(c:f.word≠[62,61])(d:f.word≠[62]){a:Nat}(e:a≠14)(g:a≠15):turned q f.word f l=some (kR a l):=by
 unfold turned kR;rw[if_neg b,if_neg (by rintro (h|h);exact c h;exact d h),if_neg aR]
theorem YW {f:Form}(b:f.op≠18)(c:f.word=[62,61]\/f.word=[62]){a:Nat}(d:a=14\/a=15):turned q f.word f l=some (kR a l):=by
 unfold turned kR;rw[if_neg b,if_pos c,if_pos d]
theorem QI (i:Nat)(hi:i<forms.length):forms=forms.take i++forms[i]::forms.drop (i+1):=by rw[<-List.drop_eq_getElem_cons hi,List.take_append_drop]
theorem kY (c:List Term)(b:List Nat)(i:Nat)(hi:i<forms.length)(a:Nat)(h:∀g∈forms.take i,g.word≠forms[i].word)(j:∀g∈forms.drop (i+1),g.word≠forms[i].word)
 (k:forms[i].args≠0) (l:forms[i].op≠12) (m:forms[i].op≠9) (n:forms[i].sort≠0) (f:forms[i].op≠18) (o:gH a (b.map (dY c))=jv forms[i].sort (gY (b.map (dY c)) forms[i].args forms[i].least forms[i].most))
 (p:kC (jb a) b.length=forms[i].op) (q:iR forms[i].op=forms[i].print) (r:a≠19)
 (s:((forms[i].word=[62,61]\/forms[i].word=[62])/\(a=14\/a=15))\/(forms[i].word≠[62,61]/\forms[i].word≠[62]/\a≠14/\a≠15)):kN nt c forms[i].word b=jI nt c a b:=by
 rw[qj c b (forms.take i) (forms.drop (i+1)) forms[i] (QI i hi) h j];refine R8 k l m n a o ?_ p q r;rcases s with ⟨d,e⟩|⟨d,e,t,u⟩
 ·exact YW f d e
 ·exact EH f d e t u
theorem ado (a:List Term)(b:List Nat):kN nt a [61] b=jI nt a 10 b:=by
 refine(qj a b (forms.take 5) (forms.drop 6) ⟨[61],[61],8,2,2,0,1⟩ rfl aY aY).trans ?_;unfold pW jI;rw[EH aY aY aY (show(10:Nat)≠14 by omega) aR]
 match b with
 | []=>simp[fits,gH,jv]
 | [c]=>simp[fits,gH,jv]
 | [c,d]=>
  by_cases h:dY a c=dY a d
  ·simp[fits,gH,jv,Form.want,Form.from_,h,kC,jb,iR]
  ·simp[fits,gH,jv,Form.want,Form.from_,h,Ne.symm h]
 | c::d::e::l=>simp[fits,gH,jv]
theorem ZJ (a:List Term)(c:List Nat)(g:∀b∈c,dY a b=1\/dY a b=2\/dY a b=3):kN nt a [105,116,101] c=jI nt a 16 c:=by
 refine(qj a c (forms.take 11) (forms.drop 12) ⟨[105,116,101],[105,116,101],12,3,3,0,0⟩ rfl aY aY).trans ?_;unfold pW jI;rw[EH aY aY aY (show(16:Nat)≠14 by omega) aR]
 match c with
 | []=>simp[fits,gH]
 | [b]=>simp[fits,gH]
 | [b,e]=>simp[fits,gH]
 | [b,e,d]=>
  by_cases f:dY a b=1
  ·by_cases h:dY a e=dY a d
   ·have i:dY a d≠0:=aP (g d aW);simp[fits,gH,Form.want,Form.from_,h,f,i,kC,jb,iR]
   ·simp[fits,gH,Form.want,Form.from_,h,Ne.symm h,f]
  ·simp[fits,gH,f]
 | b::e::d::j::l=>simp[fits,gH]
theorem Wt (a:List Term)(c:List Nat)(f:∀b∈c,dY a b=1\/dY a b=2\/dY a b=3):kN nt a [100,105,115,116,105,110,99,116] c=jI nt a 11 c:=by
 refine(qj a c (forms.take 6) (forms.drop 7) ⟨[100,105,115,116,105,110,99,116],[100,105,115,116,105,110,99,116],9,2,4,0,1⟩ rfl aY aY).trans ?_;unfold pW jI;rw[EH aY aY aY (show(11:Nat)≠14 by omega) aR];have k:gH 11 (c.map (dY a))=jv 1 (gY (c.map (dY a)) 2 2 4||gY (c.map (dY a)) 3 2 4):=by simp[gH]
 rw[k]
 by_cases d:c.length<2\/c.length>4
 ·have m:fits a ⟨[100,105,115,116,105,110,99,116],[100,105,115,116,105,110,99,116],9,2,4,0,1⟩ c=none:=by unfold fits;rw[if_pos d]
  have i:∀s,gY (c.map (dY a)) s 2 4=false:=by
   intro s;unfold gY
   have:(decide (2<=(c.map (dY a)).length)&&decide ((c.map (dY a)).length<=4))=false:=by
    simp only[List.length_map,Bool.and_eq_false_iff,decide_eq_false_iff_not];exact aR
   rw[this];rfl
  rw[m,i,i];simp[jv]
 ·match c,d,f with
  | [],d,_=>simp at d
  | b::l,d,f=>
   have n:2<=(b::l).length:=aR;have o:(b::l).length<=4:=aR
   have j:∀s,gY ((b::l).map (dY a)) s 2 4=((b::l).all (λx=>dY a x==s)):=by
    intro s;unfold gY;simp only[List.length_map,n,o,decide_true,Bool.true_and,List.all_map,Function.comp_def]
   rw[j,j];have p:Form.want ⟨[100,105,115,116,105,110,99,116],[100,105,115,116,105,110,99,116],9,2,4,0,1⟩ a (b::l)=dY a b:=rfl
   have q:fits a ⟨[100,105,115,116,105,110,99,116],[100,105,115,116,105,110,99,116],9,2,4,0,1⟩ (b::l) =
    if ((b::l).all (λx=>dY a x==dY a b))=false then none else if dY a b=1 then none else some 1:=by
    unfold fits;rw[if_neg d,p];simp[Form.from_]
   rw[q];rcases f b List.mem_cons_self with e|e|e
   ·rw[e];have g:((b::l).all (λx=>dY a x==2))=false:=anm;have h:((b::l).all (λx=>dY a x==3))=false:=anm;rw[g,h];cases ((b::l).all (λx=>dY a x==1))<;>simp[jv]
   ·rw[e];have h:((b::l).all (λx=>dY a x==3))=false:=anm;rw[h];cases ((b::l).all (λx=>dY a x==2))<;>simp[jv,kC,jb,iR]
   ·rw[e];have g:((b::l).all (λx=>dY a x==2))=false:=anm;rw[g];cases ((b::l).all (λx=>dY a x==3))<;>simp[jv,kC,jb,iR]
theorem ZI (a:List Term)(b:List Nat):kN nt a [42] b=jI nt a 19 b:=by
 refine(qj a b (forms.take 13) (forms.drop 14) ⟨[42],[42],18,2,2,2,2⟩ rfl aY aY).trans ?_;unfold pW jI;rw[xS aY aY aY aY];have c:gH 19 (b.map (dY a))=jv 2 (gY (b.map (dY a)) 2 2 2):=by simp[gH]
 rw[c];unfold turned;cases gY (b.map (dY a)) 2 2 2
 ·simp[jv]
 ·simp only[jv,if_true];cases number a (b.getD 0 0)<;>cases number a (b.getD 1 0)<;>simp
theorem ZH (a:List Term)(b:List Nat):kN nt a [45] b=jI nt a 18 b:=by
 have f:kN nt a [45] b=jN nt a [45] b [⟨[45],[45],15,1,1,2,2⟩,⟨[45],[45],17,2,2,2,2⟩]:=by
  unfold kN;exact yI (forms.take 14) [⟨[45],[45],15,1,1,2,2⟩,⟨[45],[45],17,2,2,2,2⟩] aY
 rw[f];unfold jN;rw[if_pos rfl];unfold jN;rw[if_pos rfl];unfold jN;rw[xS aY aY aY aY,xS aY aY aY aY];have g:turned a [45] ⟨[45],[45],15,1,1,2,2⟩ b=some b:=by simp[turned]
 have i:turned a [45] ⟨[45],[45],17,2,2,2,2⟩ b=some b:=by simp[turned]
 rw[g,i];unfold jI;have j:gH 18 (b.map (dY a))=jv 2 (gY (b.map (dY a)) 2 1 2):=by simp[gH]
 rw[j]
 match b with
 | []=>simp[gY,jv]
 | [c]=>
  by_cases h:dY a c=2
  ·simp[gY,jv,h,kC,jb,kR,iR]
  ·simp[gY,jv,h]
 | [c,d]=>
  by_cases h:dY a c=2
  ·by_cases e:dY a d=2
   ·simp[gY,jv,h,e,kC,jb,kR,iR]
   ·simp[gY,jv,e]
  ·simp[gY,jv,h]
 | c::d::k::l=>simp[gY,jv]
theorem MQ (a:List Term)(b:List Nat)(d:∀c∈b,dY a c=1\/dY a c=2\/dY a c=3)(w:Str)(f:lT w=true):kN nt a w b=jI nt a (kD w) b:=by
 have e:=Nw.1 f;simp only[gX,List.mem_cons,List.not_mem_nil,or_false]at e;rcases e with rfl|rfl|rfl|rfl|rfl|rfl|rfl|rfl|rfl|rfl|rfl|rfl|rfl|rfl|rfl
 ·exact kY a b 0 aY 5 aY aY aY aY aY aY aY rfl rfl rfl aY aY
 ·exact kY a b 1 aY 6 aY aY aY aY aY aY aY rfl rfl rfl aY aY
 ·exact kY a b 2 aY 7 aY aY aY aY aY aY aY rfl rfl rfl aY aY
 ·exact kY a b 3 aY 8 aY aY aY aY aY aY aY rfl rfl rfl aY aY
 ·exact kY a b 4 aY 9 aY aY aY aY aY aY aY rfl rfl rfl aY aY
 ·exact ado a b
 ·exact Wt a b d
 ·exact kY a b 7 aY 12 aY aY aY aY aY aY aY rfl rfl rfl aY aY
 ·exact kY a b 8 aY 13 aY aY aY aY aY aY aY rfl rfl rfl aY aY
 ·exact kY a b 9 aY 14 aY aY aY aY aY aY aY rfl rfl rfl aY aY
 ·exact kY a b 10 aY 15 aY aY aY aY aY aY aY rfl rfl rfl aY aY
 ·exact ZJ a b d
 ·exact kY a b 12 aY 17 aY aY aY aY aY aY aY rfl rfl rfl aY aY
 ·exact ZH a b
 ·exact ZI a b
end
theorem FD (h:r.length≠4):declare S n r=.error (4,n):=by
 match r,h with
 | [],_=>rfl
 | [a],_=>rfl
 | [a,b],_=>cases b<;>rfl
 | [a,b,c],_=>cases b<;>cases c<;>rfl
 | [a,b,c,d],h=>exact absurd rfl h
 | a::b::c::d::e::l,_=>cases b<;>cases c<;>rfl
def mW (S:dO)(p:Nat)(k1 k2 k3:Tr):Except (Nat × Nat) dO:=
 if k1.isList=true then .error (4,k1.pos)
 else if k2.isList=false then .error (4,k2.pos)
 else match iA k2.kids with
  | some x=>.error (4,x)
  | none=>
   if k3.isList=true then .error (4,k3.pos)
   else if forbidden k1.text=true then .error (5,k1.pos)
   else if (gD S.syms k1.text).isSome=true then .error (6,k1.pos)
   else if 2<k2.kids.length then .error (7,k2.pos)
   else match takes k2.kids with
    | .error x=>.error (7,x)
    | .ok l=>
     if gJ k3.text=0 then .error (7,k3.pos)
     else if S.syms.length=8 then .error (9,p)
     else .ok { S with syms:=S.syms++[⟨k1.text,l,gJ k3.text⟩] }
theorem uw (h:r.length=4):declare S n r=mW S n (r[1]' aR) (r[2]' aR) (r[3]' aR):=by
 match r,h with
 | [a,b,c,d],_=>cases b<;>cases c<;>rfl
theorem Bq (h:n<r.length):iA (r.drop n)=if r[n].isList=true then some r[n].pos else iA (r.drop (n+1)):=by
 rw[List.drop_eq_getElem_cons h];cases r[n]<;>simp[iA,Tr.isList,Tr.pos]
theorem GV (h:n<r.length):takes (r.drop n)=if gJ r[n].text=2\/gJ r[n].text=3 then(match takes (r.drop (n+1)) with|.error p=>.error p|.ok l=>.ok (gJ r[n].text::l)) else .error r[n].pos:=by
 rw[List.drop_eq_getElem_cons h]
 conv=>lhs;unfold takes
 rfl
def ko (js:List Tr)(j:Nat)(l:List Nat):Prop:=takes js=match takes (js.drop j) with|.error p=>.error p|.ok l'=>.ok (l++l')
theorem ko.zero (a:List Tr):ko a 0 []:=by
 unfold ko;rw[List.drop_zero];cases takes a<;>rfl
theorem ko.next (h:ko r n l)(a:n<r.length)(b:gJ r[n].text=2\/gJ r[n].text=3):ko r (n+1) (l++[gJ r[n].text]):=by
 unfold ko at h ⊢;rw[h,GV a,if_pos b];cases takes (r.drop (n+1))<;>simp
theorem ko.bad (h:ko r n l)(a:n<r.length)(b:¬(gJ r[n].text=2\/gJ r[n].text=3)):takes r=.error r[n].pos:=by
 unfold ko at h;rw[h,GV a,if_neg b]
theorem ko.end (h:ko r n l)(a:r.length<=n):takes r=.ok l:=by
 unfold ko at h;rw[h,List.drop_eq_nil_of_le a];simp[takes]
