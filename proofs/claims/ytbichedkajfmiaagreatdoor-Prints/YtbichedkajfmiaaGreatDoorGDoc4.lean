import Derived.Test.YtbichedkajfmiaaGreatDoorGDoc0
import Derived.Test.YtbichedkajfmiaaGreatDoorA
set_option maxRecDepth 100000
set_option maxHeartbeats 16000000
namespace Doc
variable {G g:List Sym}{S T:dB}{l:List Nat}{m n:Nat}{p q:List Term}{r:List Tr}{s t:Str}
theorem Gw (h:n<q.length):fe (q++p) n=fe q n:=by simp[fe,List.getElem?_append_left h]
theorem sW (h:n<q.length):dF (q++p) n=dF q n:=by simp[dF,List.getElem?_append_left h]
theorem Np (h:n<q.length):mY (q++p) n=mY q n:=by simp[mY,List.getElem?_append_left h]
theorem Rs (h:n<q.length):om (q++p) n=om q n:=by simp[om,List.getElem?_append_left h]
theorem UW (h:∀a∈l,a<q.length):tail (q++p) l=tail q l:=by
 induction l with
 | nil=>rfl
 | cons a l b=>
  have:=b (fun c d=>h c (List.mem_cons_of_mem _ d));simp only[tail,List.flatMap_cons,Gw (h a List.mem_cons_self)]at this ⊢;rw[this]
theorem Ml (h:∀a∈l,a<q.length):written (q++p) s l=written q s l:=by
 unfold written;rw[UW h]
theorem nQ:∀f∈forms,f.from_<f.least/\f.least<=3/\f.most<=4/\f.args<=2:=aR
theorem EG:∀f∈forms,gM f.op=f.print/\f.print.length=f.word.length/\f.word≠[]:=aR
theorem wm:∀f∈forms,(f.word=[62,61]\/f.word=[62]\/f.op=18)->f.least=2/\f.most=2/\f.args=2/\f.from_=0/\f.op≠9/\f.op≠12/\f.sort≠0:=aR
theorem sD {a:Type}{l:List a}{d:a}(h:n<l.length):l.getD n d∈l:=by
 rw[List.getD_eq_getElem?_getD,aD h];exact aP
theorem all_congr {b:Type}{l:List b}{p q:b->Bool}(h:∀a∈l,p a=q a):l.all p=l.all q:=by
 induction l with
 | nil=>rfl
 | cons a l c=>simp only[List.all_cons];rw[h a List.mem_cons_self,c (fun d e=>h d (List.mem_cons_of_mem _ e))]
theorem WH {f:Form}(d:f∈forms){a:List Nat}(h:∀b∈a,b<q.length):fits (q++p) f a=fits q f a:=by
 obtain⟨i,j,k,_⟩:=nQ f d;unfold fits
 by_cases c:a.length<f.least\/a.length>f.most
 ·rw[if_pos c,if_pos c]
 ·have e:f.want (q++p) a=f.want q a:=by
   unfold Form.want;rw[sW (h _ (sD aO))]
  rw[if_neg c,if_neg c,sW (h _ (sD aO)),e]
  have:(a.drop f.from_).all (fun b=>dF (q++p) b==f.want q a)=(a.drop f.from_).all (fun b=>dF q b==f.want q a):=
   all_congr (fun b g=>by rw[sW (h b (List.drop_subset _ _ g))])
  rw[this]
theorem Ph (e:∀n (h:n<q.length),pz g q n q[n])(h:n<q.length):number (q++p) n=number q n:=by
 unfold number;rw[Np h,Rs h]
 by_cases a:mY q n=15
 ·rw[if_pos a,if_pos a];have d:=e n h;have:om q n=q[n].args:=by simp[om,aD h]
  rw[this];have l:q[n].op=15:=by simpa[mY,aD h] using a
  have i:0<q[n].args.length:=by
   cases d.made with
   | bool b=>omega
   | num b=>omega
   | app b=>omega
   | form f j b _ c _ _=>
    have:=nQ f j;unfold fits at c
    by_cases k:q[n].args.length<f.least\/q[n].args.length>f.most
    ·rw[if_pos k]at c;cases c
    ·exact aO
  rw[Np (Nat.lt_trans (d.args _ (sD i)) h)]
 ·rw[if_neg a,if_neg a]
theorem jr {f:Form}(h:fits q f l=some n):f.least<=l.length/\l.length<=f.most:=by
 unfold fits at h
 by_cases a:l.length<f.least\/l.length>f.most
 ·rw[if_pos a]at h;cases h
 ·exact aO
theorem Eo {a c:Type}{l:List a}{p q:a->c}(h:∀b∈l,p b=q b):l.map p=l.map q:=List.map_congr_left h
theorem Made.app' {t:Term}(l:∀k (i:k<q.length),pz g q k q[k])(m:Made g q t)(e:∀a∈t.args,a<q.length):Made g (q++p) t:=by
 cases m with
 | bool a b c d=>exact .bool a b c d
 | num a b c d f=>exact .num a b c d f
 | app a b c d=>exact .app a b (by rw[<-c];exact Eo (fun x n=>sW (e x n))) d
 | form j h a b c d f=>
  refine .form j h a b (by rw[WH h e];exact c) d (fun i=>?_);have o:=nQ j h;have r:=jr c;rw[Ph l (e _ (sD aO))];exact f i
theorem pz.app {t:Term}(c:∀n (h:n<q.length),pz g q n q[n])(h:pz g q n t)(d:n<=q.length):pz g (q++p) n t:=by
 have a:∀b∈t.args,b<q.length:=fun b a=>Nat.lt_of_lt_of_le (h.args b a) d;exact⟨h.args,by rw[Ml a];exact h.text,h.made.app' c a⟩
theorem OY (h:place q s=some n):∃a:n<q.length,q[n].text=s:=by
 unfold place at h;exact amS
theorem OZ (h:place q s=none):∀t∈q,t.text≠s:=by
 unfold place at h;rw[List.findIdx?_eq_none_iff]at h;intro t a;simpa using h t a
structure Fz (ss:List Sym)(ts:List Term)(r:List Term × Nat)(n:Nat):Prop where
 wf:gP ss r.1
 ext:∃ex,r.1=ts++ex
 lt:r.2<r.1.length
 long:(fe r.1 r.2).length<=n
theorem vB {t:Term}{r:List Term × Nat}(a:gP g q)(p:pz g q q.length t){n:Nat}(l:t.text.length<=n)(w:n<=800)(h:note q t=.ok r):Fz g q r n:=by
 unfold note at h;cases hp:place q t.text with
 | some k=>
  rw[hp]at h;simp only at h;injection h with h;subst h;obtain⟨d,s⟩:=OY hp;exact⟨a,⟨[],aP⟩,d,by simp only;rw[rW d,s];exact l⟩
 | none=>
  rw[hp]at h;simp only at h;split at h
  ·cases h
  ·rename_i x;injection h with h;subst h;have m:=OZ hp;refine⟨⟨a.syms,a.names,a.few,?_,?_,?_,?_⟩,⟨[t],rfl⟩,aP,?_⟩
   ·intro k d;simp only[List.length_append,List.length_cons,List.length_nil]at d
    by_cases o:k<q.length
    ·rw[List.getElem_append_left o];exact(a.terms k o).app a.terms aO
    ·have:k=q.length:=aO;subst this;rw[List.getElem_append_right aO];simpa using p.app a.terms aO
   ·intro i j hi u e;simp only[List.length_append,List.length_cons,List.length_nil]at hi u
    by_cases f:i<q.length
    ·by_cases b:j<q.length
     ·rw[List.getElem_append_left f,List.getElem_append_left b]at e;exact a.texts i j f b e
     ·rw[List.getElem_append_left f,List.getElem_append_right aO]at e;exact absurd (by simpa[show j-q.length=0 by omega] using e) (m _ (List.getElem_mem f))
    ·by_cases b:j<q.length
     ·rw[List.getElem_append_left b,List.getElem_append_right aO]at e;exact absurd (by simpa[show i-q.length=0 by omega] using e.symm) (m _ (List.getElem_mem b))
     ·exact aO
   ·have:=a.many;simp only[List.length_append,List.length_cons,List.length_nil];exact aO
   ·intro v c;rcases List.mem_append.1 c with c|c
    ·exact a.long v c
    ·rw[List.mem_singleton.1 c];exact aO
   ·simp only[fe];simpa using l
theorem lK {ss:List Sym}{w:Str}{s:Nat}(h:eX ss w=some s):∃c:s<ss.length,ss[s].name=w:=by
 unfold eX at h;exact amS
theorem KV (h:eX g s=none):∀a∈g,a.name≠s:=by
 unfold eX at h;rw[List.findIdx?_eq_none_iff]at h;intro t b;simpa using h t b
theorem oo (h:n<g.length):jQ g n=g[n].name:=by unfold jQ;rw[aD h]
theorem ZR {r:List Term × Nat}(c:gP g q){n:Nat}(d:s.length<=n)(e:n<=800)(h:leaf g q s=.ok r):Fz g q r n:=by
 unfold leaf at h;split at h
 ·rename_i b;exact vB c ⟨aj1,by simp[written,nameOf,gM,b],.bool (.inl rfl) rfl rfl rfl⟩ d e h
 ·split at h
  ·rename_i b;exact vB c ⟨aj1,by simp[written,nameOf,gM,b],.bool (.inr rfl) rfl rfl rfl⟩ d e h
  ·split at h
   ·rename_i b;exact vB c ⟨aj1,by simp[written,nameOf],.num rfl rfl rfl rfl b⟩ d e h
   ·split at h
    ·cases h
    ·rename_i l j;obtain⟨i,k⟩:=lK j;split at h
     ·cases h
     ·rename_i m;refine vB c ⟨aj1,?_,.app rfl i ?_ rfl⟩ d e h
      ·simp[written,nameOf,oo i,k]
      ·simp only[List.map_nil];exact(List.eq_nil_of_length_eq_zero aO).symm
theorem UR (b:List Term)(a:List Nat):(tail b a).length=(a.map (fun c=>(fe b c).length+1)).sum:=by
 induction a with
 | nil=>rfl
 | cons c a d=>simp only[tail,List.flatMap_cons,List.length_append,List.length_cons,List.map_cons,List.sum_cons]at d ⊢;omega
theorem CL (b:List Term)(n:Str)(a:List Nat)(h:a.length≠0):(written b n a).length=n.length+2+(a.map (fun c=>(fe b c).length+1)).sum:=by
 unfold written;rw[if_neg h];simp only[List.length_append,List.length_cons,List.length_nil,UR];exact aO
theorem Qu {r:List Term × Nat}(b:gP g q)(c:m<g.length)(d:∀a∈l,a<q.length){n:Nat}
 (e:(jQ g m).length+2+(l.map (fun a=>(fe q a).length+1)).sum<=n) (f:n<=800) (h:applied g q m l=.ok r):Fz g q r n:=by
 unfold applied at h;split at h
 ·cases h
 ·rename_i j;split at h
  ·cases h
  ·rename_i i;refine vB b ⟨d,by simp[nameOf],.app rfl c (by simpa using i) rfl⟩ ?_ f h;simp only;rw[CL _ _ _ aO];exact e
theorem zt {args:List Nat}(h:args.length=2):∃a b,args=[a,b]/\swap args=[b,a]:=by
 match args,h with
 | [a,b],_=>exact⟨a,b,rfl,rfl⟩
theorem Hl {f:Form}(b:f∈forms)(c:f.word=[62,61]\/f.word=[62]\/f.op=18){a:List Nat}{s:Nat}(h:fits q f a=some s):fits q f (swap a)=some s:=by
 obtain⟨d,e,g,i,j,k,l⟩:=wm f b c;have n:=jr h;obtain⟨o,p,rfl,m⟩:=zt (args:=a) aO;rw[m];unfold fits Form.want at h ⊢;simp only[d,e,g,i,j,k,l,List.length_cons,List.length_nil,List.drop_zero,List.all_cons,List.all_nil,Bool.and_true]at h ⊢;rw[Bool.and_comm];exact h
theorem CQ {f:Form}(e:f∈forms)(j:f.word=s){b l:List Nat}{g:Nat}(h:fits q f b=some g)(a:turned q s f b=some l) :
 fits q f l=some g/\(l=b\/(l=swap b/\b.length=2))/\(f.op=18->number q (l.getD 0 0)=true):=by
 unfold turned at a;split at a
 ·rename_i c;obtain⟨k,m,n,o,p,r,t⟩:=wm f e (.inr (.inr c));have u:=jr h;split at a
  ·rename_i d;injection a with a;subst a;exact⟨h,.inl rfl,fun _=>d⟩
  ·split at a
   ·rename_i d;injection a with a;subst a;refine⟨Hl e (.inr (.inr c)) h,.inr ⟨rfl,aO⟩,fun _=>?_⟩;simpa[swap] using d
   ·cases a
 ·rename_i c;split at a
  ·rename_i d;injection a with a;subst a;have i:f.word=[62,61]\/f.word=[62]\/f.op=18:=by rw[j];rcases d with h|h;exact .inl h;exact .inr (.inl h)
   obtain⟨k,m,n,o,p,r,t⟩:=wm f e i;have u:=jr h;exact⟨Hl e i h,.inr ⟨rfl,aO⟩,fun h=>absurd h c⟩
  ·injection a with a;subst a;exact⟨h,.inl rfl,fun h=>absurd h c⟩
theorem O9 {r:List Term × Nat}(v:gP g q)(j:∀a∈l,a<q.length){n:Nat}
 (w:s.length+2+(l.map (fun a=>(fe q a).length+1)).sum<=n) (x:n<=800):∀(b:List Form),(∀f∈b,f∈forms)->ja q s l b=.ok r->Fz g q r n:=by
 intro b
 induction b with
 | nil=>intro _ h;cases h
 | cons f b d=>
  intro k h;have c:=k f List.mem_cons_self;have d:=d (fun y z=>k y (List.mem_cons_of_mem _ z));unfold ja at h;split at h
  ·rename_i m;split at h
   ·exact d h
   ·rename_i J A;split at h
    ·cases h
    ·rename_i o B;obtain⟨p,t,C⟩:=CQ c m A B;obtain⟨u,D,K⟩:=EG f c
     have E:∀a∈o,a<q.length:=by
      rcases t with rfl|⟨rfl,e⟩
      ·exact j
      ·obtain⟨a,F,rfl,i⟩:=zt e;rw[i];intro G H;exact j G (by simpa[or_comm] using H)
     have I:(o.map (fun a=>(fe q a).length+1)).sum=(l.map (fun a=>(fe q a).length+1)).sum:=by
      rcases t with rfl|⟨rfl,e⟩
      ·rfl
      ·obtain⟨a,F,rfl,i⟩:=zt e;rw[i];exact aQ
     have L:=jr p;have M:=nQ f c;have N:=jS f c;refine vB v ⟨E,?_,.form f c rfl u p rfl C⟩ ?_ x h
     ·simp only[nameOf];rw[if_neg aO,if_neg aO,u]
     ·simp only;rw[CL _ _ _ aO,I,D,m];exact w
  ·exact d h
mutual
def Tr.ok:Tr->Prop
 | .word _ w=>w≠[]/\∀c∈w,named c=true
 | .list _ ks=>oks ks
def oks:List Tr->Prop
 | []=>True
 | k::ks=>k.ok/\oks ks
end
mutual
def Tr.width:Tr->Nat
 | .word _ w=>w.length
 | .list _ ks=>1+eu ks
def eu:List Tr->Nat
 | []=>0
 | k::ks=>k.width+1+eu ks
end
structure agt (ss:List Sym)(ts:List Term)(acc:List Nat)(r:List Term × List Nat)(n:Nat):Prop where
 wf:gP ss r.1
 ext:∃ex,r.1=ts++ex
 lt:∀a∈r.2,a<r.1.length
 long:(r.2.map (fun a=>(fe r.1 a).length+1)).sum<=(acc.map (fun a=>(fe ts a).length+1)).sum+n
theorem Dc {one:Tr->List Term->Except (Nat × Nat) (List Term × Nat)}
 (m:∀(t:Tr) (a:List Term) (r:List Term × Nat),gP g a->t.ok->t.width<=800->one t a=.ok r->Fz g a r t.width) :
 ∀(d:List Tr) (a:List Term) (c:List Nat) (r:List Term × List Nat),gP g a->oks d->eu d<=800->(∀b∈c,b<a.length)->gI one d a c=.ok r->agt g a c r (eu d):=by
 intro d
 induction d with
 | nil=>
  intro a c r j _ _ f h;injection h with h;subst h;exact⟨j,⟨[],aP⟩,f,by simp[eu]⟩
 | cons n d o=>
  intro a c r j k p f h;unfold gI at h;simp only[oks]at k;simp only[eu]at p;split at h
  ·cases h
  ·rename_i q s;have i:=m n a q j k.1 aO s;obtain⟨u,l⟩:=i.ext
   have v:∀b∈c++[q.2],b<q.1.length:=by
    intro b e;rcases List.mem_append.1 e with e|e
    ·have:=f b e;rw[l];exact aQ
    ·rw[List.mem_singleton.1 e];exact i.lt
   have:=o q.1 (c++[q.2]) r i.wf k.2 aO v h;obtain⟨w,x⟩:=this.ext;refine⟨this.wf,⟨u++w,by rw[x,l];simp⟩,this.lt,?_⟩;have y:=this.long;have A:=i.long
   have z:(c.map (fun b=>(fe q.1 b).length+1)).sum=(c.map (fun b=>(fe a b).length+1)).sum:=by
    congr 1
    exact Eo (fun b e=>by rw[l,Gw (f b e)])
   simp only[List.map_append,List.sum_append,List.map_cons,List.map_nil,List.sum_cons,List.sum_nil,z]at y;simp only[eu];exact aO
theorem Fz.trans {r:List Term × Nat}(h:Fz g p r n)(b:∃a,p=q++a):Fz g q r n:=by
 obtain⟨a,rfl⟩:=b;obtain⟨c,d⟩:=h.ext;exact⟨h.wf,⟨a++c,by rw[d];simp⟩,h.lt,h.long⟩
theorem GK {x:Except Nat (List Term × Nat)}{r:List Term × Nat}(h:ig n x=.ok r):x=.ok r:=by
 cases x with
 | error e=>cases h
 | ok a=>simpa[ig] using h
theorem rU (e:List Sym):∀(f:Nat) (t:Tr) (b:List Term) (r:List Term × Nat),gP e b->t.ok->t.width<=800->term e f t b=.ok r->Fz e b r t.width:=by
 intro f
 induction f with
 | zero=>intro t b r _ _ _ h;cases h
 | succ f l=>
  intro t b r i c d h
  match t,c,d,h with
  | .word p w,c,d,h=>
   unfold term at h;have:=ZR i (n:=w.length) ae (by simpa[Tr.width] using d) (GK h);simpa[Tr.width] using this
  | .list p [],_,_,h=>unfold term at h;cases h
  | .list p (.list q x::rest),_,_,h=>unfold term at h;cases h
  | .list p (.word q w::rest),c,d,h=>
   unfold term at h;simp only[Tr.ok,oks]at c;simp only[Tr.width,eu]at d;split at h
   ·cases h
   ·rename_i m;split at h
    ·cases h
    ·rename_i j g;have a:=Dc l rest b [] j i c.2 aO (by intro j g;cases g) g;have h:=GK h;have n:=a.long;simp only[List.map_nil,List.sum_nil,Nat.zero_add]at n;simp only[Tr.width,eu];split at h
     ·exact(O9 a.wf a.lt (n:=1+(w.length+1+eu rest)) aO aO forms (fun v o=>o) h).trans a.ext
     ·rename_i s;cases hs:eX e w with
      | none=>exact absurd ⟨by simpa using s,hs⟩ m
      | some y=>
       obtain⟨k,u⟩:=lK hs;rw[hs]at h;exact(Qu a.wf k a.lt (n:=1+(w.length+1+eu rest)) (by rw[oo k,u];omega) aO h).trans a.ext
theorem Vv {k:Tr}(h:oks r)(a:k.ok):oks (r++[k]):=by
 induction r with
 | nil=>simp[oks,a]
 | cons c r b=>simp only[oks,List.cons_append]at h ⊢;exact⟨h.1,b h.2⟩
theorem Mm (a:List Tr)(k:Tr):eu (a++[k])=eu a+k.width+1:=by
 induction a with
 | nil=>simp[eu]
 | cons b a c=>simp only[eu,List.cons_append];omega
theorem Ry {c:UInt8}(b:s[n]?=some c)(d:¬(named c=false/\c≠40)):je s n:=⟨c,b,by
 by_cases a:named c=true
 ·exact .inl a
 ·right
  refine Decidable.byContradiction fun e=>d ⟨aiW,e⟩⟩
theorem MU {one:Nat->qW}(g:∀i k j,je s i->one i=.ok k j->(i<j/\j<=s.length)/\k.ok/\k.width+1<=2*(j-i)) :
 ∀(f i:Nat) (a:List Tr) (t:Tr) (j:Nat),oks a->n<i->eu a<=2*(i-n)->eQ one s n f i a=.ok t j->t.ok/\t.width+1<=2*(j-n):=by
 intro f
 induction f with
 | zero=>intro i a t j _ _ _ h;simp[eQ]at h
 | succ f l=>
  intro i a t j b r u h;unfold eQ at h;split at h
  ·exact ajo
  ·rename_i v m;split at h
   ·injection h with c d;subst c d;refine⟨by simpa[Tr.ok] using b,?_⟩;simp only[Tr.width];exact aO
   ·split at h
    ·exact ajo
    ·rename_i w o;split at h
     ·exact ajo
     ·rename_i k e p;obtain⟨⟨c,d⟩,q,x⟩:=g i k e (Ry m o) p;have y:=nR s e;refine l _ _ _ _ (Vv b q) aO ?_ h;rw[Mm];exact aO
theorem Nn (h:je s n)(c:s[n]?≠some 40):Tr.ok (.word n (fu s n))/\Tr.width (.word n (fu s n))+1<=2*(n+(fu s n).length-n):=by
 have:=qB h c;simp only[Tr.ok,Tr.width];refine⟨⟨?_,?_⟩,aO⟩
 ·intro e;rw[e]at this;simp at this
 ·intro g a;unfold fu at a
  revert a
  generalize s.drop n=u
  induction u with
  | nil=>intro a;simp at a
  | cons d u f=>
   intro a
   by_cases b:named d=true
   ·rw[List.takeWhile_cons_of_pos b]at a;rcases List.mem_cons.1 a with rfl|a
    ·exact b
    ·exact f a
   ·rw[List.takeWhile_cons_of_neg b]at a;cases a
theorem Zq (l:Str):∀(n i:Nat) (t:Tr) (j:Nat),je l i->tree l n i=.ok t j->t.ok/\t.width+1<=2*(j-i):=by
 intro n
 induction n with
 | zero=>
  intro i t j a h;unfold tree at h;split at h
  ·exact ajo
  ·rename_i b;injection h with c d;subst c d;exact Nn a b
 | succ n e=>
  intro i t j a h;unfold tree at h;split at h
  ·have f:=nR l (i+1);exact MU (fun i k j a h=>⟨oh l n i k j a h,e i k j a h⟩) _ _ _ _ _ (by simp[oks]) aO (by simp[eu]) h
  ·rename_i b;injection h with c d;subst c d;exact Nn a b
theorem IC {one:Nat->qW}:∀(f i:Nat) (a:List Tr) (t:Tr) (j:Nat),eQ one s n f i a=.ok t j->∃b,t=.list n b:=by
 intro f
 induction f with
 | zero=>intro i a t j h;simp[eQ]at h
 | succ f c=>
  intro i a t j h;unfold eQ at h;split at h
  ·exact ajo
  ·split at h
   ·injection h with d e;exact⟨a,d.symm⟩
   ·split at h
    ·exact ajo
    ·split at h
     ·exact ajo
     ·exact c _ _ _ _ h
theorem zy {l:Str}{t:Tr}(h:parse l=.ok t):∃p a,t=.list p a/\oks a/\eu a<=2*l.length:=by
 unfold parse at h;split at h
 ·rename_i c;split at h
  ·cases h
  ·rename_i i j b;split at h
   ·cases h
   ·injection h with h;subst h;have d:je l (blank l 0):=⟨40,c,.inr rfl⟩;obtain⟨e,g⟩:=Zq l 12 _ _ _ d b;have k:=oh l 12 _ _ _ d b;have f:=b;rw[sV c]at f;obtain⟨a,rfl⟩:=IC _ _ _ _ _ f;simp only[Tr.ok,Tr.width]at e g;exact⟨_,a,rfl,e,aO⟩
 ·cases h
def dZ (op:Nat):Nat:=
 if op=1 then 1 else if op=2 then 2 else if op=14 then 3 else if op=13 then 4 else if op=3 then 5 else if op=4 then 6 else if op=5 then 7 else if op=6 then 8 else if op=7 then 9
 else if op=8 then 10 else if op=9 then 11 else if op=10 then 12 else if op=11 then 13 else if op=12 then 16 else if op=16 then 17 else if op=15 then 18 else if op=17 then 18 else if op=18 then 19 else 0
def fq (t:Term):Nat:=if t.op=14 then dn.val t.text else 0
def Alike (t u:Term):Prop:=dZ t.op=dZ u.op/\t.sym=u.sym/\fq t=fq u/\t.args=u.args
theorem ZK:∀a b:Fin 19,1<=a.1->1<=b.1->dZ a.1=dZ b.1->a.1=b.1\/(a.1=15/\b.1=17)\/(a.1=17/\b.1=15):=aR
theorem Pd:∀a b:Fin 19,1<=a.1->1<=b.1->a.1≠13->a.1≠14->b.1≠13->b.1≠14->gM a.1=gM b.1->dZ a.1=dZ b.1:=aR
theorem pJ:∀a:Fin 19,1<=a.1->a.1≠13->a.1≠14->forbidden (gM a.1)=true/\digits (gM a.1)=false:=aR
theorem yH {t:Term}(h:Made g q t):1<=t.op/\t.op<=18:=by
 cases h with
 | bool a=>omega
 | num a=>omega
 | app a=>omega
 | form f b a=>have:=jS f b;omega
theorem qh (h:digits s=true):dn.Dg s/\s≠[]/\(s=[48]\/dn.rH s)/\s.length<=8:=by
 unfold digits at h;simp only[Bool.and_eq_true,decide_eq_true_eq,Bool.not_eq_true',ne_eq]at h;obtain⟨⟨⟨a,b⟩,c⟩,d⟩:=h;refine⟨?_,?_,?_,b⟩
 ·intro f g;have:=List.all_eq_true.1 d f g;unfold digit at this;simp only[Bool.and_eq_true,decide_eq_true_eq]at this;exact this
 ·intro e;rw[e]at a;simp at a
 ·by_cases e:s=[48]
  ·exact .inl e
  ·right
   unfold dn.rH;intro i;simp[i,e]at c
theorem EL (f:digits s=true)(g:digits t=true)(h:dn.val s=dn.val t):s=t:=by
 obtain⟨c,i,b,_⟩:=qh f;obtain⟨d,j,a,_⟩:=qh g;have e:dn.val [48]=0:=aR;rcases b with b|b
 ·rcases a with a|a
  ·rw[b,a]
  ·have:=dn.Bw d a;rw[<-h,b,e,dn.iL]at this;exact absurd this j
 ·rcases a with a|a
  ·have:=dn.Bw c b;rw[h,a,e,dn.iL]at this;exact absurd this i
  ·rw[dn.Bw c b,dn.Bw d a,h]
theorem J6 (k:gP g q):∀(as a:List Nat),(∀b∈as,b<q.length)->(∀b∈a,b<q.length)->as.map (fe q)=a.map (fe q)->as=a:=by
 intro as
 induction as with
 | nil=>intro a _ _ h;cases a with
  | nil=>rfl
  | cons c a=>simp at h
 | cons b as l=>
  intro a e f h;cases a with
  | nil=>simp at h
  | cons c a=>
   simp only[List.map_cons,List.cons.injEq]at h;have i:=e b List.mem_cons_self;have j:=f c List.mem_cons_self;rw[rW i,rW j]at h;rw[k.texts b c i j h.1,l a (fun x d=>e x (List.mem_cons_of_mem _ d)) (fun x d=>f x (List.mem_cons_of_mem _ d)) h.2]
theorem mF {t:Term}(h:Made g q t):t.op=14->digits (nameOf g t)=true:=by
 intro b;cases h with
 | num _ _ _ _ c=>simpa[nameOf,b] using c
 | bool a=>omega
 | app a=>omega
 | form f d a=>have:=jS f d;omega
theorem zD {t:Term}(j:∀s∈g,vg s)(k:Made g q t):t.op=13->∃b:t.sym<g.length,nameOf g t=g[t.sym].name/\forbidden (nameOf g t)=false/\digits (nameOf g t)=false:=by
 intro l;cases k with
 | num f=>omega
 | bool f=>omega
 | form m a f=>have:=jS m a;omega
 | app _ b _ _=>
  refine⟨b,?_⟩;have d:nameOf g t=g[t.sym].name:=by simp[nameOf,l,oo b]
  have a:=(j _ (List.getElem_mem b)).name;refine⟨d,by rw[d];exact a,?_⟩;rw[d]
  by_cases h:digits g[t.sym].name=true
  ·exfalso;obtain⟨n,o,_,_⟩:=qh h;unfold forbidden at a;simp only[Bool.or_eq_false_iff,Bool.not_eq_false']at a;have c:=a.1.2;cases e:g[t.sym].name with
   | nil=>exact o e
   | cons i u=>
    rw[e]at c;have c:letter i=true:=c;have:=n i (by rw[e];simp);simp only[letter,Bool.or_eq_true,Bool.and_eq_true,decide_eq_true_eq]at c;exact aO
  ·exact ajq
theorem mE {t:Term}(a:t.op≠13)(b:t.op≠14):nameOf g t=gM t.op:=by simp[nameOf,a,b]
theorem Qw {t u:Term}(d:gP g q)(e:pz g q q.length t)(H:u∈q):t.text=u.text↔Alike t u:=by
 obtain⟨k,B,rfl⟩:=List.mem_iff_getElem.1 H;have b:=d.terms k B;have C:∀a∈q[k].args,a<q.length:=fun a f=>Nat.lt_trans (b.args a f) B;have r:=yH e.made;have o:=yH b.made;constructor
 ·intro m;have I:=m;rw[e.text,b.text]at m;obtain⟨h,J⟩:=Mk (zk d.syms e.made) (zk d.syms b.made) (fun a f=>d.tok a (e.args a f)) (fun a f=>d.tok a (C a f)) m;have s:=J6 d _ _ e.args C J
  by_cases i:t.op=13
  ·obtain⟨K,L,D,l⟩:=zD d.syms e.made i
   by_cases yA:q[k].op=13
   ·obtain⟨v,w,p,x⟩:=zD d.syms b.made yA;rw[L,w]at h;exact⟨by rw[i,yA],d.names _ _ K v h,by simp[fq,i,yA],s⟩
   ·by_cases sU:q[k].op=14
    ·rw[h,mF b.made sU]at l;cases l
    ·rw[h,mE yA sU]at D;have:=(pJ ⟨q[k].op,aO⟩ o.1 yA sU).1;simp only at this;rw[D]at this;cases this
  ·by_cases c:t.op=14
   ·have l:=mF e.made c
    by_cases yA:q[k].op=13
    ·obtain⟨v,w,p,x⟩:=zD d.syms b.made yA;rw[h,x]at l;cases l
    ·by_cases sU:q[k].op=14
     ·refine⟨by rw[c,sU],?_,by simp[fq,c,sU,I],s⟩;cases e.made with
      | num _ _ _ j _=>
       cases b.made with
       | num _ _ _ M _=>rw[j,M]
       | bool a=>omega
       | app a=>omega
       | form y z a=>have:=jS y z;omega
      | bool a=>omega
      | app a=>omega
      | form y z a=>have:=jS y z;omega
     ·rw[h,mE yA sU]at l;have:=(pJ ⟨q[k].op,aO⟩ o.1 yA sU).2;simp only at this;rw[l]at this;cases this
   ·have N:t.sym=0:=by
     cases e.made with
     | num a=>omega
     | bool _ _ _ j=>exact j
     | app a=>omega
     | form _ _ _ _ _ j=>exact j
    rw[mE i c]at h;have A:=pJ ⟨t.op,aO⟩ r.1 i c;simp only at A
    by_cases yA:q[k].op=13
    ·obtain⟨v,w,p,x⟩:=zD d.syms b.made yA;rw[<-h,A.1]at p;cases p
    ·by_cases sU:q[k].op=14
     ·have:=mF b.made sU;rw[<-h,A.2]at this;cases this
     ·have O:q[k].sym=0:=by
       cases b.made with
       | num a=>omega
       | bool _ _ _ j=>exact j
       | app a=>omega
       | form _ _ _ _ _ j=>exact j
      rw[mE yA sU]at h;exact⟨Pd ⟨t.op,aO⟩ ⟨q[k].op,aO⟩ r.1 o.1 i c yA sU h,by rw[N,O],by simp[fq,c,sU],s⟩
 ·rintro ⟨P,Q,E,R⟩;rw[e.text,b.text,R]
  congr 1
  rcases ZK ⟨t.op,aO⟩ ⟨q[k].op,aO⟩ r.1 o.1 P with m|⟨f,n⟩|⟨f,n⟩
  ·simp only at m
   by_cases i:t.op=13
   ·simp[nameOf,i,show q[k].op=13 by omega,Q]
   ·by_cases c:t.op=14
    ·have sU:q[k].op=14:=aO;have F:=mF e.made c;have G:=mF b.made sU;simp only[nameOf,c,sU,show ¬(14:Nat)=13 by omega,if_true,if_false]at F G ⊢;simp only[fq,c,sU,if_true]at E;exact EL F G E
    ·rw[mE i c,mE aO aO,m]
  ·simp only at f n;rw[mE aO aO,mE aO aO,f,n];rfl
  ·simp only at f n;rw[mE aO aO,mE aO aO,f,n];rfl
abbrev Lv:=Nat × Nat × Nat
def Lv.le (a b:Lv):Prop:=a.1<=b.1/\a.2.1<=b.2.1/\a.2.2<=b.2.2
structure Qx (S:dB)(l:Lv):Prop where
 a:l.1<=S.syms.length
 b:l.2.1<=S.terms.length
 c:l.2.2<=S.held.length
 wf:gP (S.syms.take l.1) (S.terms.take l.2.1)
 held:∀h∈S.held.take l.2.2,h<l.2.1
structure fQ (S:dB):Prop where
 book:gP S.syms S.terms
 held:∀h∈S.held,h<S.terms.length/\dF S.terms h=1
 pE:S.held.length<=12
 rY:S.levels.length<=4
 yJ:∀l∈S.levels,Qx S l
 mono:S.levels.Pairwise Lv.le
def dB.empty:dB:=⟨[],[],[],[]⟩
theorem gP.empty:gP [] []:=⟨(by intro s a;cases a),(by intro i j hi;simp at hi),aP,(by intro k b;simp at b),(by intro i j hi;simp at hi),aP,(by intro t c;cases c)⟩
theorem fQ.empty:fQ dB.empty:=⟨gP.empty,(by intro h a;cases a),(by simp[dB.empty]),(by simp[dB.empty]),(by intro l b;cases b),(by simp[dB.empty])⟩
theorem take_prefix {b:Type}{a c:List b}(h:n<=a.length):(a++c).take n=a.take n:=List.take_append_of_le_length h
theorem Ms (h:n<g.length):jQ (g++G) n=jQ g n:=by simp[jQ,List.getElem?_append_left h]
theorem Mt (h:n<g.length):gK (g++G) n=gK g n:=by simp[gK,List.getElem?_append_left h]
theorem Mr (h:n<g.length):iN (g++G) n=iN g n:=by simp[iN,List.getElem?_append_left h]
theorem pz.syms {t:Term}(h:pz g q n t):pz (g++G) q n t:=by
 refine⟨h.args,?_,?_⟩
 ·have:nameOf (g++G) t=nameOf g t:=by
   unfold nameOf;split
   ·rename_i k;cases h.made with
    | app _ j _ _=>exact Ms j
    | num a=>omega
    | bool a=>omega
    | form f e a=>have:=jS f e;omega
   ·rfl
  rw[this];exact h.text
 ·cases h.made with
  | bool a b c d=>exact .bool a b c d
  | num a b c d i=>exact .num a b c d i
  | app a b c d=>exact .app a aQ (by rw[Mt b];exact c) (by rw[Mr b];exact d)
  | form f e a b c d i=>exact .form f e a b c d i
theorem gP.sym {x:Sym}(h:gP g q)(f:vg x)(d:∀s∈g,s.name≠x.name)(n:g.length≠8):gP (g++[x]) q:=by
 have:=h.few;refine⟨?_,?_,aQ,fun k l=>(h.terms k l).syms,h.texts,h.many,h.long⟩
 ·intro s a;rcases List.mem_append.1 a with a|a
  ·exact h.syms s a
  ·rw[List.mem_singleton.1 a];exact f
 ·intro i j hi m e;simp only[List.length_append,List.length_cons,List.length_nil]at hi m
  by_cases c:i<g.length
  ·by_cases b:j<g.length
   ·rw[List.getElem_append_left c,List.getElem_append_left b]at e;exact h.names i j c b e
   ·rw[List.getElem_append_left c,List.getElem_append_right aO]at e;exact absurd (by simpa[show j-g.length=0 by omega] using e) (d _ (List.getElem_mem c))
  ·by_cases b:j<g.length
   ·rw[List.getElem_append_left b,List.getElem_append_right aO]at e;exact absurd (by simpa[show i-g.length=0 by omega] using e.symm) (d _ (List.getElem_mem b))
   ·exact aO
theorem Qx.ext {l:Lv}(h:Qx S l)(a:List Sym)(b:List Term)(c:List Nat)(lv:List Lv):Qx ⟨S.syms++a,S.terms++b,S.held++c,lv⟩ l:=by
 have:=h.a;have:=h.b;have:=h.c;refine⟨aQ,aQ,aQ,?_,?_⟩
 ·simp only;rw[take_prefix h.a,take_prefix h.b];exact h.wf
 ·simp only;rw[take_prefix h.c];exact h.held
theorem OD:∀(a:List Tr) (l:List Nat),takes a=.ok l->(∀b∈l,b=2\/b=3)/\l.length=a.length:=by
 intro a
 induction a with
 | nil=>intro l h;injection h with h;subst h;simp
 | cons j a d=>
  intro l h;unfold takes at h;split at h
  ·rename_i e;split at h
   ·cases h
   ·rename_i f g;injection h with h;subst h;obtain⟨b,i⟩:=d f g;refine⟨?_,by simp[i]⟩;intro x c;rcases List.mem_cons.1 c with rfl|c
    ·exact e
    ·exact b x c
  ·cases h
theorem Jp (w:Str):fw w=0\/fw w=1\/fw w=2\/fw w=3:=by
 unfold fw
 by_cases a:w=wT
 ·rw[if_pos a];exact aO
 ·rw[if_neg a]
  by_cases b:w=AQ
  ·rw[if_pos b];exact aO
  ·rw[if_neg b]
   by_cases c:w=wU
   ·rw[if_pos c];exact aO
   ·rw[if_neg c];exact aO
theorem Qk (a:fQ S)(c:oks r)(h:declare S n r=.ok T):fQ T:=by
 unfold declare at h;split at h
 ·cases h
 ·cases h
 ·rename_i q t w u d b;split at h
  ·cases h
  ·split at h
   ·cases h
   ·rename_i v;split at h
    ·cases h
    ·rename_i f;split at h
     ·cases h
     ·rename_i g;split at h
      ·cases h
      ·rename_i x;split at h
       ·cases h
       ·rename_i l i;split at h
        ·cases h
        ·rename_i y;split at h
         ·cases h
         ·rename_i j;injection h with h;subst h;obtain⟨k,z⟩:=OD d l i;simp only[oks,Tr.ok]at c
          have m:vg ⟨w,l,fw b.text⟩:=by
           refine⟨ajB,c.2.1.2,k,ajF,?_⟩;simp only;have:=Jp b.text;exact aO
          have o:∀s∈S.syms,s.name≠w:=KV (by
           cases e:eX S.syms w with
           | none=>rfl
           | some _=>simp[e]at g)
          refine⟨a.book.sym m o j,a.held,a.pE,a.rY,?_,a.mono⟩;intro lv p;have:=(a.yJ lv p).ext [⟨w,l,fw b.text⟩] [] [] S.levels;simpa using this
 ·cases h
theorem Ws (h:∀x∈l,x<q.length/\dF q x=1):∀x∈l,x<(q++p).length/\dF (q++p) x=1:=by
 intro x a;obtain⟨b,c⟩:=h x a;exact⟨aQ,by rw[sW b];exact c⟩
theorem TD (a:fQ S)(d:oks r)(g:eu r<=800)(h:assert S n r=.ok T):fQ T:=by
 unfold assert at h;split at h
 ·rename_i m t;split at h
  ·cases h
  ·rename_i e i;split at h
   ·cases h
   ·rename_i j;split at h
    ·cases h
    ·rename_i o;injection h with h;subst h;simp only[oks]at d;simp only[eu]at g;have c:=rU S.syms 12 t S.terms e a.book d.2.1 aO i;obtain⟨k,f⟩:=c.ext;have p:=a.pE;refine⟨c.wf,?_,aQ,a.rY,?_,a.mono⟩
     ·intro x b;rcases List.mem_append.1 b with b|b
      ·simp only;rw[f];exact Ws a.held x b
      ·rw[List.mem_singleton.1 b];exact⟨c.lt,by simpa using j⟩
     ·intro lv l;have:=(a.yJ lv l).ext [] k [e.2] S.levels;rw[<-f]at this;simpa using this
 ·cases h
theorem count_le {p n:Nat}{ks:List Tr}(h:count p ks=.ok n):n<=5:=by
 unfold count at h;split at h
 ·exact ajA
 ·exact ajA
 ·split at h
  ·repeat' split at h
   all_goals (injection h with h;omega)
  ·cases h
 ·cases h
theorem Iz {L:List Lv}{x:Lv}(h:L.Pairwise Lv.le)(a:∀l∈L,Lv.le l x)(n:Nat):(L++List.replicate n x).Pairwise Lv.le:=by
 rw[List.pairwise_append];refine⟨h,?_,?_⟩
 ·rw[List.pairwise_replicate];right;exact⟨ae,ae,ae⟩
 ·intro b c e d;rw[(List.mem_replicate.1 d).2];exact a b c
theorem ZH (a:fQ S)(h:push S n r=.ok T):fQ T:=by
 unfold push at h;split at h
 ·cases h
 ·rename_i c e;split at h
  ·cases h
  ·rename_i f;injection h with h;subst h;refine⟨a.book,a.held,a.pE,aQ,?_,?_⟩
   ·intro l b;rcases List.mem_append.1 b with b|b
    ·have:=(a.yJ l b).ext [] [] [] (S.levels++List.replicate c (S.syms.length,S.terms.length,S.held.length));simpa using this
    ·rw[(List.mem_replicate.1 b).2];refine⟨ae,ae,ae,?_,?_⟩
     ·simpa using a.book
     ·intro x d;exact(a.held x (List.take_subset _ _ d)).1
   ·exact Iz a.mono (fun l b=>⟨(a.yJ l b).a,(a.yJ l b).b,(a.yJ l b).c⟩) c
theorem lI {c:Type}(l:List c){a b:Nat}(h:a<=b):(l.take b).take a=l.take a:=by rw[List.take_take,Nat.min_eq_left h]
theorem OG (h:m<n):dF (q.take n) m=dF q m:=by simp[dF,h]
def back (S:dB)(l:Lv)(L:List Lv):dB:=⟨S.syms.take l.1,S.terms.take l.2.1,S.held.take l.2.2,L⟩
theorem Gb (a:fQ S){l:Lv}{L R:List Lv}(c:S.levels=L++l::R):fQ (back S l L):=by
 have b:=a.yJ l (by rw[c];simp);have d:=a.mono;rw[c,List.pairwise_append]at d;have e:=a.rY;rw[c]at e;simp only[List.length_append,List.length_cons]at e;have p:=a.pE;refine⟨b.wf,?_,by simp[back];omega,by simp only[back];omega,?_,d.1⟩
 ·intro x f;have i:=b.held x f;have j:=a.held x (List.take_subset _ _ f);refine⟨by have:=b.b;simp only[back,List.length_take];omega,?_⟩;simp only[back];rw[OG i];exact j.2
 ·intro m g;have h:=a.yJ m (by rw[c];exact List.mem_append_left _ g);obtain⟨k,n,o⟩:=d.2.2 m g l aP;have:=b.a;have:=b.b;have:=b.c;refine⟨ajt,ajt,ajt,?_,?_⟩
  ·simp only[back];rw[lI _ k,lI _ n];exact h.wf
  ·simp only[back];rw[lI _ o];exact h.held
theorem FM {L:List Lv}{l:Lv}(a:S.levels=L++[l]):OX S=back S l L:=by
 unfold OX back;rw[a];exact aP
theorem Vi:∀(n:Nat) (R:List Lv) (S:dB) (L:List Lv) (l:Lv),R.length=n->fQ S->S.levels=L++l::R->uk (R.length+1) S=back S l L:=by
 intro n
 induction n with
 | zero=>
  intro R S L l a _ c;have:R=[]:=List.eq_nil_of_length_eq_zero a;subst this;simp only[List.length_nil,uk];exact FM c
 | succ n h=>
  intro b S L l a e c;have f:b≠[]:=by intro i;rw[i]at a;simp at a
  obtain⟨R,r,rfl⟩:∃R r,b=R++[r]:=⟨b.dropLast,b.getLast f,(List.dropLast_concat_getLast f).symm⟩;have j:R.length=n:=aiW;have d:S.levels=(L++l::R)++[r]:=by rw[c];simp
  have k:fQ (back S r (L++l::R)):=Gb e (R:=[]) d;have g:=e.mono;rw[d,List.pairwise_append]at g;obtain⟨m,o,p⟩:=g.2.2 l aP r aP;simp only[List.length_append,List.length_cons,List.length_nil,Nat.zero_add];rw[uk,FM d,h R _ L l j k rfl];simp only[back];rw[lI _ m,lI _ o,lI _ p]
theorem Ns (R:List Lv)(S:dB)(L:List Lv)(l:Lv)(a:fQ S)(b:S.levels=L++l::R):uk (R.length+1) S=back S l L:=Vi _ R S L l rfl a b
theorem GJ {S:dB}{n:Nat}(a:0<n)(h:n<=S.levels.length):∃L l R,S.levels=L++l::R/\R.length+1=n/\L.length=S.levels.length-n:=by
 refine⟨S.levels.take (S.levels.length-n),S.levels[S.levels.length-n],S.levels.drop (S.levels.length-n+1),?_,aQ,aP⟩;rw[<-List.drop_eq_getElem_cons aO,List.take_append_drop]
theorem aaB (a:fQ S)(h:pop S n r=.ok T):fQ T:=by
 unfold pop at h;split at h
 ·cases h
 ·rename_i b f;split at h
  ·cases h
  ·rename_i g;injection h with h;subst h;rcases Nat.eq_zero_or_pos b with rfl|d
   ·exact a
   ·obtain⟨L,l,R,c,e,_⟩:=GJ d (by omega:b<=S.levels.length);rw[<-e,Ns R S L l a c];exact Gb a c
theorem map_ok {x:Except (Nat × Nat) dB}{r:dB × Bool}(h:x.map (fun s=>(s,false))=.ok r):x=.ok r.1/\r.2=false:=by
 cases x with
 | error e=>simp[Except.map]at h
 | ok s=>simp[Except.map]at h;subst h;simp
theorem aay {b:dB × Bool}(a:fQ S)(c:oks r)(d:eu r<=800)(h:run S n r=.ok b):fQ b.1:=by
 unfold run at h;split at h
 ·cases h
 ·split at h
  ·exact Qk a c (map_ok h).1
  ·split at h
   ·exact TD a c d (map_ok h).1
   ·split at h
    ·exact ZH a (map_ok h).1
    ·split at h
     ·exact aaB a (map_ok h).1
     ·split at h
      ·split at h
       ·cases h
       ·injection h with h;subst h;exact a
      ·split at h
       ·split at h
        ·cases h
        ·injection h with h;subst h;exact fQ.empty
       ·cases h
theorem F4 {r:dB × Bool}(a:fQ S)(h:jV S s=.ok r):fQ r.1:=by
 unfold jV at h;split at h
 ·cases h
 ·split at h
  ·cases h
  ·rename_i t b;obtain⟨p,d,rfl,c,e⟩:=zy b;exact aay a c aO h
theorem Bt (a c:List Tr):∀b,fD (a++c) b=fD a b++fD c (b+(fD a b).length):=by
 induction a with
 | nil=>intro b;simp[fD]
 | cons k a d=>intro b;simp[fD,d,Nat.add_assoc]
def start (ks:List Tr)(b n:Nat):Nat:=b+(fD (ks.take n) b).length
def places (ks:List Tr)(b:Nat):List Nat:=(List.range ks.length).map (start ks b)
theorem uQ (a:List Tr)(b:Nat):start a b 0=b:=by simp[start,fD]
theorem Ef (h:m<r.length):start r n (m+1)=start r n m+(flat r[m] (start r n m)).length:=by
 unfold start;rw[List.take_add_one,aD h];simp only[Option.toList_some,Bt,List.length_append,fD];simp[Nat.add_assoc]
theorem wZ (a:List Tr)(b:Nat):start a b a.length=b+(fD a b).length:=by simp[start]
theorem DT (t:Tr)(b:Nat):0<(flat t b).length:=by cases t<;>simp[flat]
theorem Du {ks:List Tr}{b n:Nat}(h:n<ks.length):start ks b n<start ks b (n+1):=by
 rw[Ef h];have:=DT ks[n] (start ks b n);exact aO
theorem OH {ks:List Tr}{b:Nat}:∀m n,n+m<=ks.length->start ks b n<=start ks b (n+m):=by
 intro m
 induction m with
 | zero=>intro n _;exact ae
 | succ m a=>intro n h;have:=a n aO;have:=Du (ks:=ks) (b:=b) (n:=n+m) aO;rw[<-Nat.add_assoc];omega
theorem U2 {ks:List Tr}{b n:Nat}(h:n<=ks.length):start ks b n<=b+(fD ks b).length:=by
 have:=OH (ks:=ks) (b:=b) (ks.length-n) n aO;rw[show n+(ks.length-n)=ks.length by omega,wZ]at this;exact this
theorem Ta (t:Tr)(b:Nat):∃a,flat t b=⟨t.pos,t.text,b+(flat t b).length⟩::a:=by
 cases t with
 | word p w=>exact⟨[],by simp[flat,Tr.pos,Tr.text]⟩
 | list p c=>refine⟨fD c (b+1),by simp[flat,Tr.pos,Tr.text];omega⟩
def kF (its:List Item)(b:Nat)(t:Tr):Prop:=∃pre post,its=pre++(flat t b++post)/\pre.length=b
theorem kF.item {a:List Item}{t:Tr}(h:kF a n t):a[n]?=some ⟨t.pos,t.text,n+(flat t n).length⟩:=by
 obtain⟨b,d,rfl,rfl⟩:=h;obtain⟨e,c⟩:=Ta t b.length;rw[List.getElem?_append_right ae,Nat.sub_self];rw[List.getElem?_append_left (DT t b.length)]
 conv=>lhs;rw[c]
 exact aP
theorem kF.lt {a:List Item}{t:Tr}(h:kF a n t):n+(flat t n).length<=a.length:=by
 obtain⟨b,c,rfl,rfl⟩:=h;simp only[List.length_append];exact aO
theorem kF.lt' {a:List Item}{t:Tr}(h:kF a n t):n<a.length:=by
 have:=h.lt;have:=DT t n;exact aO
theorem kF.kid {c:List Item}(h:kF c n (.list m r)){a:Nat}(d:a<r.length):kF c (start r (n+1) a) r[a]:=by
 obtain⟨b,e,rfl,rfl⟩:=h;have f:r=r.take a++r[a]::r.drop (a+1):=by rw[<-List.drop_eq_getElem_cons d,List.take_append_drop]
 have g:fD r (b.length+1)=fD (r.take a) (b.length+1)++(flat r[a] (start r (b.length+1) a)++fD (r.drop (a+1)) (start r (b.length+1) a+(flat r[a] (start r (b.length+1) a)).length)):=by
  conv=>lhs;rw[f]
  rw[Bt,fD];rfl
 refine⟨b++⟨m,[],b.length+1+(fD r (b.length+1)).length⟩::fD (r.take a) (b.length+1),fD (r.drop (a+1)) (start r (b.length+1) a+(flat r[a] (start r (b.length+1) a)).length)++e,?_,?_⟩
 ·rw[flat];simp only[List.append_assoc,List.cons_append]
  congr 2
  conv=>lhs;rw[g]
  simp only[List.append_assoc]
 ·simp[start];exact aO
theorem kF.top (t:Tr):kF (flat t 0) 0 t:=⟨[],[],aP,rfl⟩
theorem zx (a:List Tr)(b:Nat):(places a b).length=a.length:=by simp[places]
theorem kV {ks:List Tr}{b n:Nat}(h:n<ks.length):(places ks b)[n]?=some (start ks b n):=by simp[places,List.getElem?_range h]
theorem MH {ks:List Tr}{b n:Nat}(h:n<ks.length):(places ks b).take (n+1)=(places ks b).take n++[start ks b n]:=by
 rw[List.take_add_one,kV h];rfl
end Doc
