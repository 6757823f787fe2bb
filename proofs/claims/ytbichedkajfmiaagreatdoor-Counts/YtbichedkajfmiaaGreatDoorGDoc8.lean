import Derived.Test.YtbichedkajfmiaaGreatDoorGDoc4
import Derived.Test.YtbichedkajfmiaaGreatDoorA
set_option maxRecDepth 100000
set_option maxHeartbeats 16000000
namespace Doc
variable {S:dB}{g:List Sym}{l:List Nat}{n:Nat}{q:List Term}{r:List Tr}{s:Str}
def fG:List Str:=[[110,111,116],[97,110,100],[111,114],[120,111,114],[61,62],[61],[100,105,115,116,105,110,99,116],[60,61],[60],[62,61],[62],[105,116,101],[43],[45],[42]]
def ji (w:Str):Nat:=match fG.findIdx? (fun n=>n==w) with|some i=>5+i|none=>0
def fH (sorts:List Nat)(s least most:Nat):Bool:=decide (least<=sorts.length)&&decide (sorts.length<=most)&&sorts.all (fun x=>x==s)
def iA (s:Nat)(b:Bool):Nat:=if b=true then s else 0
def fo (op:Nat)(sorts:List Nat):Nat:=
 if op=5 then iA 1 (fH sorts 1 1 1)
 else if op=6\/op=7 then iA 1 (fH sorts 1 2 4)
 else if op=8\/op=9 then iA 1 (fH sorts 1 2 2)
 else if op=10 then iA 1 (decide (sorts.length=2)&&(sorts.getD 0 0==sorts.getD 1 0))
 else if op=11 then iA 1 (fH sorts 2 2 4||fH sorts 3 2 4)
 else if op=12\/op=13\/op=14\/op=15 then iA 1 (fH sorts 2 2 2)
 else if op=16 then(if sorts.length≠3\/sorts.getD 0 0≠1\/sorts.getD 1 0≠sorts.getD 2 0 then 0 else sorts.getD 1 0)
 else if op=17 then iA 2 (fH sorts 2 2 4)
 else if op=18 then iA 2 (fH sorts 2 1 2)
 else if op=19 then iA 2 (fH sorts 2 2 2)
 else 0
def jh (op n:Nat):Nat:=
 if op=5 then 3 else if op=6 then 4 else if op=7 then 5 else if op=8 then 6 else if op=9 then 7 else if op=10 then 8 else if op=11 then 9 else if op=12 then 10 else if op=13 then 11
 else if op=16 then 12 else if op=17 then 16 else if op=18 then(if n=1 then 15 else 17) else if op=19 then 18 else 0
def gY (op:Nat):Nat:=if op=14 then 12 else if op=15 then 13 else op
def jD (op:Nat)(args:List Nat):List Nat:=if op=14\/op=15 then swap args else args
def iO {α:Type}(nt:Term->Except Nat α)(ts:List Term)(op:Nat)(args:List Nat):Except Nat α:=
 if fo op (args.map (dF ts))=0 then .error 7
 else if op=19 then
  if number ts (args.getD 0 0)=true then nt ⟨written ts [42] args,18,2,0,args⟩
  else if number ts (args.getD 1 0)=true then nt ⟨written ts [42] (swap args),18,2,0,swap args⟩
  else .error 8
 else nt ⟨written ts (gM (jh (gY op) args.length)) (jD op args),jh (gY op) args.length,fo op (args.map (dF ts)),0,jD op args⟩
theorem uX {f:Form}(b:f.args≠0)(c:f.op≠12)(d:f.op≠9)(e:f.sort≠0) :
 fits q f l=if fH (l.map (dF q)) f.args f.least f.most=true then some f.sort else none:=by
 unfold fits Form.want Form.from_ fH;simp only[b,c,d,e,if_false,false_and,List.drop_zero,List.length_map,List.all_map]
 by_cases a:l.length<f.least\/l.length>f.most
 ·rw[if_pos a]
  have:(decide (f.least<=l.length)&&decide (l.length<=f.most))=false:=by
   simp only[Bool.and_eq_false_iff,decide_eq_false_iff_not];exact aO
  rw[this];exact aP
 ·rw[if_neg a];have g:f.least<=l.length:=aO;have i:l.length<=f.most:=aO;simp only[g,i,decide_true,Bool.true_and,Function.comp_def];cases h:l.all (fun j=>dF q j==f.args)<;>simp
theorem GQ (h:ji s≠0):s∈fG:=by
 unfold ji at h;cases e:fG.findIdx? (fun n=>n==s) with
 | none=>rw[e]at h;simp at h
 | some i=>
  rw[List.findIdx?_eq_some_iff_getElem]at e;obtain⟨hi,a,_⟩:=e;have:fG[i]=s:=aiW;rw[<-this];exact aP
theorem Kl:jY s=true↔s∈fG:=by
 constructor
 ·intro h;unfold jY at h;obtain⟨f,a,b⟩:=List.any_eq_true.1 h;have:f.word=s:=ajh;have c:∀f∈forms,f.word∈fG:=aR;rw[<-this];exact c f a
 ·have:∀s∈fG,jY s=true:=aR;exact this s
theorem Sj:∀w∈fG,ji w≠0:=aR
theorem uR (w:Str):jY w=true↔ji w≠0:=Kl.trans ⟨Sj w,GQ⟩
theorem adU {a b:Type}{c:Bool}{x:a}{n:b}{g:a->b}:(match (if c=true then some x else none) with|none=>n|some s=>g s)=if c=true then g x else n:=by
 cases c<;>rfl
theorem adM {b:Bool}(a:n≠0):iA n b=0↔b=false:=by unfold iA;cases b<;>simp[a]
def iR {α:Type}(nt:Term->Except Nat α)(ts:List Term)(w:Str)(args:List Nat):List Form->Except Nat α
 | []=>.error 7
 | f::fs=>
  if f.word=w then
   match fits ts f args with
   | none=>iR nt ts w args fs
   | some sort=>
    match turned ts w f args with
    | none=>.error 8
    | some l=>nt ⟨written ts f.print l,f.op,sort,0,l⟩
  else iR nt ts w args fs
def jA {α:Type}(nt:Term->Except Nat α)(ts:List Term)(w:Str)(args:List Nat):Except Nat α:=iR nt ts w args forms
theorem R7 (a:List Term)(w:Str)(c:List Nat):∀b,ja a w c b=iR (note a) a w c b:=by
 intro b
 induction b with
 | nil=>rfl
 | cons f b e=>
  unfold ja iR;rw[e]
  by_cases d:f.word=w
  ·rw[if_pos d,if_pos d];cases fits a f c with
   | none=>rfl
   | some s=>simp only;cases turned a w f c<;>rfl
  ·rw[if_neg d,if_neg d]
theorem MN {t:Term}(e:∀c∈l,c<q.length):∀(a:List Form),(∀f∈a,f∈forms)->iR Except.ok q s l a=.ok t->pz g q q.length t/\t.args.length<=4:=by
 intro a
 induction a with
 | nil=>intro _ h;cases h
 | cons f a d=>
  intro i h;have b:=i f List.mem_cons_self;have d:=d (fun m n=>i m (List.mem_cons_of_mem _ n));unfold iR at h;split at h
  ·rename_i o;split at h
   ·exact d h
   ·rename_i C p;split at h
    ·cases h
    ·rename_i r u;obtain⟨j,v,w⟩:=CQ b o p u;obtain⟨k,D,E⟩:=EG f b
     have x:∀c∈r,c<q.length:=by
      rcases v with rfl|⟨rfl,y⟩
      ·exact e
      ·obtain⟨c,F,rfl,z⟩:=zt y;rw[z];intro A B;exact e A (by simpa[or_comm] using B)
     have G:=jr j;have H:=nQ f b;have I:=jS f b;injection h with h
     subst h;refine⟨⟨x,?_,.form f b rfl k j rfl w⟩,ajF⟩;simp only[nameOf];rw[if_neg aO,if_neg aO,k]
  ·exact d h
section
variable {α:Type} {nt:Term->Except Nat α}
theorem vR {ts:List Term}{args:List Nat}:∀(a b:List Form),(∀g∈a,g.word≠s)->iR nt ts s args (a++b)=iR nt ts s args b:=by
 intro a
 induction a with
 | nil=>intro b _;rfl
 | cons g a c=>
  intro b h;rw[List.cons_append]
  conv=>lhs;unfold iR
  rw[if_neg (h g List.mem_cons_self)];exact c b (fun x d=>h x (List.mem_cons_of_mem _ d))
theorem JJ (a:List Form)(h:∀g∈a,g.word≠s):iR nt q s l a=.error 7:=by
 have:=vR (nt:=nt) (ts:=q) (args:=l) a [] h;rw[List.append_nil]at this;rw[this];rfl
def mU {α:Type}(nt:Term->Except Nat α)(ts:List Term)(f:Form)(args:List Nat):Except Nat α:=
 match fits ts f args with
 | none=>.error 7
 | some s=>match turned ts f.word f args with
  | none=>.error 8
  | some l=>nt ⟨written ts f.print l,f.op,s,0,l⟩
theorem nG (a:List Term)(b:List Nat)(c d:List Form)(f:Form)(e:forms=c++f::d)(h:∀g∈c,g.word≠f.word)(i:∀g∈d,g.word≠f.word):jA nt a f.word b=mU nt a f b:=by
 unfold jA mU;rw[e,vR c _ h]
 conv=>lhs;unfold iR
 rw[if_pos rfl];cases fits a f b with
 | none=>simp only;exact JJ d i
 | some s=>rfl
theorem Ox {f:Form}(c:f.args≠0)(d:f.op≠12)(e:f.op≠9)(b:f.sort≠0)(a:Nat)(g:fo a (l.map (dF q))=iA f.sort (fH (l.map (dF q)) f.args f.least f.most))
 (i:turned q f.word f l=some (jD a l)) (j:jh (gY a) l.length=f.op) (k:gM f.op=f.print) (m:a≠19):mU nt q f l=iO nt q a l:=by
 unfold mU iO;rw[uX c d e b,g,i,j,k,if_neg m];cases h:fH (l.map (dF q)) f.args f.least f.most
 ·simp[iA]
 ·simp[iA,b]
theorem Ck {f:Form}(b:f.op≠18)(c:f.word≠[62,61])(d:f.word≠[62]){a:Nat}(e:a≠14)(g:a≠15):turned q f.word f l=some (jD a l):=by
 unfold turned jD;rw[if_neg b,if_neg (by rintro (h|h);exact c h;exact d h),if_neg aO]
theorem UM {f:Form}(b:f.op≠18)(c:f.word=[62,61]\/f.word=[62]){a:Nat}(d:a=14\/a=15):turned q f.word f l=some (jD a l):=by
 unfold turned jD;rw[if_neg b,if_pos c,if_pos d]
theorem M3 (i:Nat)(hi:i<forms.length):forms=forms.take i++forms[i]::forms.drop (i+1):=by rw[<-List.drop_eq_getElem_cons hi,List.take_append_drop]
theorem jI (c:List Term)(b:List Nat)(i:Nat)(hi:i<forms.length)(a:Nat)(h:∀g∈forms.take i,g.word≠forms[i].word)(j:∀g∈forms.drop (i+1),g.word≠forms[i].word)
 (k:forms[i].args≠0) (l:forms[i].op≠12) (m:forms[i].op≠9) (n:forms[i].sort≠0) (f:forms[i].op≠18) (o:fo a (b.map (dF c))=iA forms[i].sort (fH (b.map (dF c)) forms[i].args forms[i].least forms[i].most))
 (p:jh (gY a) b.length=forms[i].op) (q:gM forms[i].op=forms[i].print) (r:a≠19)
 (s:((forms[i].word=[62,61]\/forms[i].word=[62])/\(a=14\/a=15))\/(forms[i].word≠[62,61]/\forms[i].word≠[62]/\a≠14/\a≠15)):jA nt c forms[i].word b=iO nt c a b:=by
 rw[nG c b (forms.take i) (forms.drop (i+1)) forms[i] (M3 i hi) h j];refine Ox k l m n a o ?_ p q r;rcases s with ⟨d,e⟩|⟨d,e,t,u⟩
 ·exact UM f d e
 ·exact Ck f d e t u
theorem ZN (a:List Term)(b:List Nat):jA nt a [61] b=iO nt a 10 b:=by
 refine(nG a b (forms.take 5) (forms.drop 6) ⟨[61],[61],8,2,2,0,1⟩ rfl aR aR).trans ?_;unfold mU iO;rw[Ck aR aR aR (show(10:Nat)≠14 by omega) aO]
 match b with
 | []=>simp[fits,fo,iA]
 | [c]=>simp[fits,fo,iA]
 | [c,d]=>
  by_cases h:dF a c=dF a d
  ·simp[fits,fo,iA,Form.want,Form.from_,h,jh,gY,gM]
  ·simp[fits,fo,iA,Form.want,Form.from_,h,Ne.symm h]
 | c::d::e::l=>simp[fits,fo,iA]
theorem Vt (a:List Term)(c:List Nat)(g:∀b∈c,dF a b=1\/dF a b=2\/dF a b=3):jA nt a [105,116,101] c=iO nt a 16 c:=by
 refine(nG a c (forms.take 11) (forms.drop 12) ⟨[105,116,101],[105,116,101],12,3,3,0,0⟩ rfl aR aR).trans ?_;unfold mU iO;rw[Ck aR aR aR (show(16:Nat)≠14 by omega) aO]
 match c with
 | []=>simp[fits,fo]
 | [b]=>simp[fits,fo]
 | [b,e]=>simp[fits,fo]
 | [b,e,d]=>
  by_cases f:dF a b=1
  ·by_cases h:dF a e=dF a d
   ·have i:dF a d≠0:=by have:=g d aP;omega
    simp[fits,fo,Form.want,Form.from_,h,f,i,jh,gY,gM]
   ·simp[fits,fo,Form.want,Form.from_,h,Ne.symm h,f]
  ·simp[fits,fo,f]
 | b::e::d::j::l=>simp[fits,fo]
theorem R8 (a:List Term)(c:List Nat)(f:∀b∈c,dF a b=1\/dF a b=2\/dF a b=3):jA nt a [100,105,115,116,105,110,99,116] c=iO nt a 11 c:=by
 refine(nG a c (forms.take 6) (forms.drop 7) ⟨[100,105,115,116,105,110,99,116],[100,105,115,116,105,110,99,116],9,2,4,0,1⟩ rfl aR aR).trans ?_;unfold mU iO;rw[Ck aR aR aR (show(11:Nat)≠14 by omega) aO];have k:fo 11 (c.map (dF a))=iA 1 (fH (c.map (dF a)) 2 2 4||fH (c.map (dF a)) 3 2 4):=by simp[fo]
 rw[k]
 by_cases d:c.length<2\/c.length>4
 ·have m:fits a ⟨[100,105,115,116,105,110,99,116],[100,105,115,116,105,110,99,116],9,2,4,0,1⟩ c=none:=by unfold fits;rw[if_pos d]
  have i:∀s,fH (c.map (dF a)) s 2 4=false:=by
   intro s;unfold fH
   have:(decide (2<=(c.map (dF a)).length)&&decide ((c.map (dF a)).length<=4))=false:=by
    simp only[List.length_map,Bool.and_eq_false_iff,decide_eq_false_iff_not];exact aO
   rw[this];rfl
  rw[m,i,i];simp[iA]
 ·match c,d,f with
  | [],d,_=>simp at d
  | b::l,d,f=>
   have n:2<=(b::l).length:=aO;have o:(b::l).length<=4:=aO
   have j:∀s,fH ((b::l).map (dF a)) s 2 4=((b::l).all (fun x=>dF a x==s)):=by
    intro s;unfold fH;simp only[List.length_map,n,o,decide_true,Bool.true_and,List.all_map,Function.comp_def]
   rw[j,j];have p:Form.want ⟨[100,105,115,116,105,110,99,116],[100,105,115,116,105,110,99,116],9,2,4,0,1⟩ a (b::l)=dF a b:=rfl
   have q:fits a ⟨[100,105,115,116,105,110,99,116],[100,105,115,116,105,110,99,116],9,2,4,0,1⟩ (b::l) =
    if ((b::l).all (fun x=>dF a x==dF a b))=false then none else if dF a b=1 then none else some 1:=by
    unfold fits;rw[if_neg d,p];simp[Form.from_]
   rw[q];rcases f b List.mem_cons_self with e|e|e
   ·rw[e];have g:((b::l).all (fun x=>dF a x==2))=false:=by simp[e]
    have h:((b::l).all (fun x=>dF a x==3))=false:=by simp[e]
    rw[g,h];cases ((b::l).all (fun x=>dF a x==1))<;>simp[iA]
   ·rw[e];have h:((b::l).all (fun x=>dF a x==3))=false:=by simp[e]
    rw[h];cases ((b::l).all (fun x=>dF a x==2))<;>simp[iA,jh,gY,gM]
   ·rw[e];have g:((b::l).all (fun x=>dF a x==2))=false:=by simp[e]
    rw[g];cases ((b::l).all (fun x=>dF a x==3))<;>simp[iA,jh,gY,gM]
theorem Vs (a:List Term)(b:List Nat):jA nt a [42] b=iO nt a 19 b:=by
 refine(nG a b (forms.take 13) (forms.drop 14) ⟨[42],[42],18,2,2,2,2⟩ rfl aR aR).trans ?_;unfold mU iO;rw[uX aR aR aR aR];have c:fo 19 (b.map (dF a))=iA 2 (fH (b.map (dF a)) 2 2 2):=by simp[fo]
 rw[c];unfold turned;cases fH (b.map (dF a)) 2 2 2
 ·simp[iA]
 ·simp only[iA,if_true];cases number a (b.getD 0 0)<;>cases number a (b.getD 1 0)<;>simp
theorem Vr (a:List Term)(b:List Nat):jA nt a [45] b=iO nt a 18 b:=by
 have f:jA nt a [45] b=iR nt a [45] b [⟨[45],[45],15,1,1,2,2⟩,⟨[45],[45],17,2,2,2,2⟩]:=by
  unfold jA;exact vR (forms.take 14) [⟨[45],[45],15,1,1,2,2⟩,⟨[45],[45],17,2,2,2,2⟩] aR
 rw[f];unfold iR;rw[if_pos rfl];unfold iR;rw[if_pos rfl];unfold iR;rw[uX aR aR aR aR,uX aR aR aR aR];have g:turned a [45] ⟨[45],[45],15,1,1,2,2⟩ b=some b:=by simp[turned]
 have i:turned a [45] ⟨[45],[45],17,2,2,2,2⟩ b=some b:=by simp[turned]
 rw[g,i];unfold iO;have j:fo 18 (b.map (dF a))=iA 2 (fH (b.map (dF a)) 2 1 2):=by simp[fo]
 rw[j]
 match b with
 | []=>simp[fH,iA]
 | [c]=>
  by_cases h:dF a c=2
  ·simp[fH,iA,h,jh,gY,jD,gM]
  ·simp[fH,iA,h]
 | [c,d]=>
  by_cases h:dF a c=2
  ·by_cases e:dF a d=2
   ·simp[fH,iA,h,e,jh,gY,jD,gM]
   ·simp[fH,iA,e]
  ·simp[fH,iA,h]
 | c::d::k::l=>simp[fH,iA]
theorem JL (a:List Term)(b:List Nat)(d:∀c∈b,dF a c=1\/dF a c=2\/dF a c=3)(w:Str)(f:jY w=true):jA nt a w b=iO nt a (ji w) b:=by
 have e:=Kl.1 f;simp only[fG,List.mem_cons,List.not_mem_nil,or_false]at e;rcases e with rfl|rfl|rfl|rfl|rfl|rfl|rfl|rfl|rfl|rfl|rfl|rfl|rfl|rfl|rfl
 ·exact jI a b 0 aR 5 aR aR aR aR aR aR aR rfl rfl rfl aR aR
 ·exact jI a b 1 aR 6 aR aR aR aR aR aR aR rfl rfl rfl aR aR
 ·exact jI a b 2 aR 7 aR aR aR aR aR aR aR rfl rfl rfl aR aR
 ·exact jI a b 3 aR 8 aR aR aR aR aR aR aR rfl rfl rfl aR aR
 ·exact jI a b 4 aR 9 aR aR aR aR aR aR aR rfl rfl rfl aR aR
 ·exact ZN a b
 ·exact R8 a b d
 ·exact jI a b 7 aR 12 aR aR aR aR aR aR aR rfl rfl rfl aR aR
 ·exact jI a b 8 aR 13 aR aR aR aR aR aR aR rfl rfl rfl aR aR
 ·exact jI a b 9 aR 14 aR aR aR aR aR aR aR rfl rfl rfl aR aR
 ·exact jI a b 10 aR 15 aR aR aR aR aR aR aR rfl rfl rfl aR aR
 ·exact Vt a b d
 ·exact jI a b 12 aR 17 aR aR aR aR aR aR aR rfl rfl rfl aR aR
 ·exact Vr a b
 ·exact Vs a b
end
theorem C8 (h:r.length≠4):declare S n r=.error (4,n):=by
 match r,h with
 | [],_=>rfl
 | [a],_=>rfl
 | [a,b],_=>cases b<;>rfl
 | [a,b,c],_=>cases b<;>cases c<;>rfl
 | [a,b,c,d],h=>exact absurd rfl h
 | a::b::c::d::e::l,_=>cases b<;>cases c<;>rfl
def lq (S:dB)(p:Nat)(k1 k2 k3:Tr):Except (Nat × Nat) dB:=
 if k1.isList=true then .error (4,k1.pos)
 else if k2.isList=false then .error (4,k2.pos)
 else match fP k2.kids with
  | some x=>.error (4,x)
  | none=>
   if k3.isList=true then .error (4,k3.pos)
   else if forbidden k1.text=true then .error (5,k1.pos)
   else if (eX S.syms k1.text).isSome=true then .error (6,k1.pos)
   else if 2<k2.kids.length then .error (7,k2.pos)
   else match takes k2.kids with
    | .error x=>.error (7,x)
    | .ok l=>
     if fw k3.text=0 then .error (7,k3.pos)
     else if S.syms.length=8 then .error (9,p)
     else .ok { S with syms:=S.syms++[⟨k1.text,l,fw k3.text⟩] }
theorem qO (h:r.length=4):declare S n r=lq S n (r[1]' aO) (r[2]' aO) (r[3]' aO):=by
 match r,h with
 | [a,b,c,d],_=>cases b<;>cases c<;>rfl
theorem yS (h:n<r.length):fP (r.drop n)=if r[n].isList=true then some r[n].pos else fP (r.drop (n+1)):=by
 rw[List.drop_eq_getElem_cons h];cases r[n]<;>simp[fP,Tr.isList,Tr.pos]
theorem Ed (h:n<r.length):takes (r.drop n)=if fw r[n].text=2\/fw r[n].text=3 then(match takes (r.drop (n+1)) with|.error p=>.error p|.ok l=>.ok (fw r[n].text::l)) else .error r[n].pos:=by
 rw[List.drop_eq_getElem_cons h]
 conv=>lhs;unfold takes
 rfl
def jd (js:List Tr)(j:Nat)(l:List Nat):Prop:=takes js=match takes (js.drop j) with|.error p=>.error p|.ok l'=>.ok (l++l')
theorem jd.zero (a:List Tr):jd a 0 []:=by
 unfold jd;rw[List.drop_zero];cases takes a<;>rfl
theorem jd.next (h:jd r n l)(a:n<r.length)(b:fw r[n].text=2\/fw r[n].text=3):jd r (n+1) (l++[fw r[n].text]):=by
 unfold jd at h ⊢;rw[h,Ed a,if_pos b];cases takes (r.drop (n+1))<;>simp
theorem jd.bad (h:jd r n l)(a:n<r.length)(b:¬(fw r[n].text=2\/fw r[n].text=3)):takes r=.error r[n].pos:=by
 unfold jd at h;rw[h,Ed a,if_neg b]
theorem jd.end (h:jd r n l)(a:r.length<=n):takes r=.ok l:=by
 unfold jd at h;rw[h,List.drop_eq_nil_of_le a];simp[takes]
end Doc
