import Derived.Test.YtjiagbaaikifpaaGreatDoorGSum0
import Derived.Test.YtjiagbaaikifpaaGreatDoorGVal0
set_option maxRecDepth 100000
set_option maxHeartbeats 16000000
namespace Go.Proofs.YtjiagbaaikifpaaGreatDoor
open Doc Go.Proofs.Tryz
variable {g:List Sym}{l:List Nat}{n:Nat}{q:List Term}{s:Str}
theorem zU:∀f∈forms,f.most<=4/\(f.op=3\/f.op=15->f.least=1/\f.most=1)/\(f.op=6\/f.op=7\/f.op=8\/f.op=10\/f.op=11\/f.op=17\/f.op=18->f.least=2/\f.most=2)/\(f.op=12->f.least=3/\f.most=3)/\(f.sort=0->f.op=12/\f.args=0/\f.from_=1)/\(f.sort=0\/f.sort=1\/f.sort=2)/\1<=f.least/\(f.op≠3->f.op≠15->2<=f.least):=aY
theorem D9 {f:Doc.Form}(h:fits q f l=some n):(f.sort≠0/\n=f.sort)\/(f.sort=0/\n=f.want q l):=by
 unfold fits at h;split at h
 ·cases h
 ·split at h
  ·cases h
  ·split at h
   ·cases h
   ·split at h
    ·cases h
    ·split at h
     ·injection h with h;exact .inr ⟨by assumption,h.symm⟩
     ·injection h with h;exact .inl ⟨by assumption,h.symm⟩
theorem Xz (h:digits s=true):∃z:Int,s=dC.dec z/\s.length<=8:=by
 obtain⟨b,d,a,f⟩:=nY h
 obtain⟨z,g⟩:=dC.qD (t:=s) (by
  unfold dC.Is;rcases a with rfl|a
  ·rfl
  ·have i:s.head?≠some 45:=by
    cases s with
    | nil=>simp
    | cons c l=>
     intro e;have:=b c aW;simp at e;subst e
     revert this
     exact aY
   simp only[if_neg i];have j:(s.all (λc=>48<=c&&c<=57))=true:=dC.PX.2 b
   have k:s.isEmpty=false:=by cases s with
    | nil=>exact absurd rfl d
    | cons c l=>rfl
   have m:(s.head? !=some 48)=true:=by
    cases s with
    | nil=>exact absurd rfl d
    | cons c l=>
     simp;intro e;subst e;exact a rfl
   rw[j,k,m];simp)
 exact⟨z,g,f⟩
theorem ac3 (c:iB g q):∀k (h:k<q.length),q[k].sort=1\/q[k].sort=2\/q[k].sort=3:=by
 intro k
 induction k using Nat.strongRecOn with
 | _ k m=>
  intro h;have d:=c.terms k h;cases d.made with
  | bool _ _ a _=>exact .inl a
  | num _ _ a _ _=>exact .inr (.inl a)
  | app _ e _ a=>
   rw[a,iW,aF e];exact(c.syms _ (List.getElem_mem e)).sort
  | form f i _ _ j _ _=>
   obtain⟨_,_,_,_,n,u,_⟩:=zU f i;have v:=jO j;rcases D9 j with ⟨l,b⟩|⟨l,b⟩
   ·rw[b];exact aR
   ·obtain⟨o,p,r⟩:=n l;obtain⟨w,_⟩:=(zU f i).2.2.2.1 o;rw[b,Doc.Form.want,if_pos p,r];have s:1<q[k].args.length:=aR;have t:q[k].args.getD 1 0<k:=d.args _ (qC s);have:=m _ t aR;rw[dY,aF aR];exact this
theorem tQ (b:iB g q):jQ q:=by
 intro k h;have c:=b.terms k h;have l:=ac3 b k h;have m:=yt c.made;refine⟨c.args,?_,l,m,?_,?_,?_,?_⟩
 all_goals
  cases c.made with
  | bool d a _ _=>simp[a];try omega
  | num d a _ _ n=>
   first
   | (simp[a];omega)
   | (intro _;exact Xz n)
   | simp[a]
  | app d e a _=>
   have f:=congrArg List.length a;rw[List.length_map,iD,aF e]at f;have s:=(b.syms _ (List.getElem_mem e)).few;simp only at f
   first
   | omega
   | (intro h;omega)
  | form i j d _ a _ _=>
   obtain⟨t,o,p,r,_,_,_⟩:=zU i j;obtain⟨u,v,w,x,_⟩:=kM i j;have y:=jO a
   first
   | omega
   | (intro h;omega)
   | (intro h;have:=o aR;omega)
   | (intro h;have:=p aR;omega)
   | (intro h;have:=r aR;omega)
theorem DL (l:iB g q):zg q:=by
 intro i h w;have n:=l.terms i h;have e:=tQ l;have r:=(e i h).two aR
 obtain⟨j,k,f⟩:∃j k,q[i].args=[j,k]:=by
  match a:q[i].args,r with
  | [j,k],_=>exact⟨j,k,rfl⟩
 refine⟨j,k,f,?_⟩;have b:j<q.length:=Nat.lt_trans (n.args j (by rw[f];simp)) h;refine⟨b,?_⟩;cases n.made with
 | bool d _ _ _=>omega
 | num d _ _ _ _=>omega
 | app d _ _ _=>omega
 | form x y z _ _ _ a=>
  have o:=a aR;rw[f]at o;have c:(if qa q j=15 then qa q ((qO q j).getD 0 0)==14 else qa q j==14)=true:=o;have s:qa q j=q[j].op:=by rw[qa,aF b]
  have t:qO q j=q[j].args:=by rw[qO,aF b]
  rw[s,t]at c;split at c
  ·rename_i u;have d:=(e j b).one aR
   obtain⟨m,a⟩:∃m,q[j].args=[m]:=by
    match a:q[j].args,d with
    | [m],_=>exact⟨m,rfl⟩
   have p:m<q.length:=Nat.lt_trans ((e j b).args m (by rw[a];simp)) b;rw[a]at c;have v:qa q m=q[m].op:=by rw[qa,aF p]
   refine .inr ⟨u,m,p,a,?_⟩;have:=beq_iff_eq.1 c;rw[<-v];exact this
  ·exact .inl (beq_iff_eq.1 c)
theorem UF (c:iB g q):BK q:=by
 have b:∀i (h:i<q.length),q[i].op=13->q[i].args.length=(iD g q[i].sym).length:=by
  intro i h n;cases (c.terms i h).made with
  | bool a _ _ _=>omega
  | num a _ _ _ _=>omega
  | app _ o d _=>rw[<-d,List.length_map]
  | form f e p _ _ _ _=>have:=kM f e;omega
 intro i j hi k a l m;rw[b i hi a,b j k l,m]
theorem QA (m:List En)(s:Nat)(b:List Str):Doc.look m s b=[48]\/∃e∈m,Doc.look m s b=e.val:=by
 unfold Doc.look;split
 ·rename_i e a;exact .inr ⟨e,List.mem_of_find?_eq_some a,rfl⟩
 ·split
  ·rename_i e a;exact .inr ⟨e,List.mem_of_find?_eq_some a,rfl⟩
  ·exact .inl rfl
theorem Nh {m:List En}(b:∀e∈m,e.val.length<=1000000)(s:Nat)(a:List Str):(Doc.look m s a).length<=1000000:=by
 rcases QA m s a with h|⟨e,c,h⟩
 ·exact aom
 ·rw[h];exact b e c
theorem Q3:∀(a:List Int),(∀z∈a,(dC.dec z).length<=n)->1<=n->(dC.dec a.sum).length<=n+2*a.length
 | [],_,b=>by rw[List.sum_nil,dC.gV];simp;omega
 | z::a,h,b=>by
  have d:=Q3 a (λx c=>h x (List.mem_cons_of_mem _ c)) b;have e:=h z List.mem_cons_self;have f:=mX z a.sum;rw[List.sum_cons,List.length_cons];exact aR
theorem Vt {m:List En}(A:iB g q)(K:lawful g m=true)(L:∀t∈m,t.val.length<=1000000):∀k,(h:k<q.length)->(dC.dec (value m q k)).length<=1000000+20*(k+1)/\(q[k].op=14->(dC.dec (value m q k)).length<=8)/\(jR q k->(dC.dec (value m q k)).length<=10):=by
 intro k
 induction k using Nat.strongRecOn with
 | ind k u=>
  intro r;have f:=tQ A k r;have M:=DL A k r;have N:q[k]?=some q[k]:=aF r;have b:=yC (m:=m) N f.args;have B:∀i∈q[k].args,i<q.length:=λi e=>Nat.lt_trans (f.args i e) r
  have e:∀z∈q[k].args.map (value m q),(dC.dec z).length<=1000000+20*k:=λz s=>by
   obtain⟨i,e,rfl⟩:=List.mem_map.1 s;have:=(u i (f.args i e) (B i e)).1;have:=f.args i e;exact aR
  have n:∀v,(dC.dec ((q[k].args.map (value m q)).getD v 0)).length<=1000000+20*k:=λv=>by
   rw[List.getD_eq_getElem?_getD];cases t:(q[k].args.map (value m q))[v]? with
   | none=>rw[Option.getD_none,dC.gV];simp;omega
   | some z=>exact e z (List.mem_of_getElem? t)
  have s:=e;generalize w:q[k].args.map (value m q)=d at b e n s;have P:d.length<=4:=by rw[<-w,List.length_map];exact f.few
  have plain:q[k].op≠14->q[k].op≠15->(dC.dec (value m q k)).length<=1000000+20*(k+1)->(dC.dec (value m q k)).length<=1000000+20*(k+1)/\(q[k].op=14->(dC.dec (value m q k)).length<=8)/\(jR q k->(dC.dec (value m q k)).length<=10):=λa o j=>⟨j,λh=>absurd h a,fun⟨_,h⟩=>by rcases h with h|⟨h,_⟩<;>omega⟩;have one:(dC.dec (1:Int)).length<=1:=by rw[dC.lD];simp
  have Q:(dC.dec (0:Int)).length<=1:=by rw[dC.gV];simp
  by_cases C:q[k].op=1
  ·refine plain aR aR ?_;rw[b,aee C];exact aR
  by_cases D:q[k].op=2
  ·refine plain aR aR ?_;rw[b,aed D];exact aR
  by_cases c:q[k].op=14
  ·obtain⟨z,a,o⟩:=f.num c;have j:value m q k=z:=by rw[b,Si c,a,EK]
   rw[a]at o;rw[j];exact⟨aR,λ_=>o,λ_=>aR⟩
  by_cases E:q[k].op=13
  ·refine plain c aR ?_;rw[b,Sj E,adK (Rh K _ _)];have:=Nh L q[k].sym (d.map dC.dec);exact aR
  by_cases F:q[k].op=12
  ·refine plain c aR ?_;rw[b,Sk F];split
   ·have:=n 1;exact aR
   ·have:=n 2;exact aR
  by_cases p:q[k].op=15
  ·have a:=rR (d.getD 0 0);have o:=n 0;rw[b,Sg p];refine⟨aR,λh=>absurd h c,fun⟨_,h⟩=>?_⟩;rcases h with h|⟨_,l,O,j,x⟩
   ·exact absurd h c
   ·have G:=(u l (f.args l (by rw[j];simp)) O).2.1 x;have H:d.getD 0 0=value m q l:=by rw[<-w,j];rfl
    rw[H]at a ⊢;exact aR
  by_cases I:q[k].op=17
  ·refine plain c p ?_;have a:=vX (d.getD 0 0) (d.getD 1 0);have o:=n 0;have j:=n 1;rw[b,Sc I];exact aR
  by_cases y:q[k].op=18
  ·refine plain c p ?_;obtain⟨l,R,a,o⟩:=M y;have j:=(u l (f.args l (by rw[a];simp)) (B l (by rw[a];simp))).2.2 o;have x:d.getD 0 0=value m q l:=by rw[<-w,a];rfl
   have G:=Av (d.getD 0 0) (d.getD 1 0);have H:=n 1;rw[b,Sb y];rw[x]at G ⊢;exact aR
  by_cases J:q[k].op=16
  ·refine plain c p ?_;have a:=Q3 d s aR;rw[b,Sd J];exact aR
  ·refine plain c p ?_;rw[b,Mg C D c E F p I y J];split<;>omega
