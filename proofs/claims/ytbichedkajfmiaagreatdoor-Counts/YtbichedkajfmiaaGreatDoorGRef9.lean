import Derived.Test.YtbichedkajfmiaaGreatDoorGRef3
import Derived.Test.YtbichedkajfmiaaGreatDoorC
set_option maxRecDepth 100000
set_option maxHeartbeats 16000000
namespace Go.Proofs.YtbichedkajfmiaaGreatDoor
open Go.RowKit
variable {D:Tc}{O o:Own}{W u w:World}{Y:Doc.Tr}{h:Ending}{k m n:Nat}{l:List Nat}{v:Value}
theorem KU (w:World)(t:TypeId):CE (w.alloc (.cells (Doc.forms.flatMap iJ).toArray t)) w.heap.size:=by
 have b:∀j,(w.alloc (.cells (Doc.forms.flatMap iJ).toArray t)).cell? ⟨w.heap.size,j,none⟩=(Doc.forms.map iJ).flatten[j]?:=fun j=>by
  rw[cell_of_row _ w.heap.size j (Doc.forms.flatMap iJ).toArray t (0,0) (heap_alloc_new w _)];simp[List.flatMap_def]
 have c:∀x∈Doc.forms.map iJ,x.length=7:=by
  intro x d;obtain⟨f,_,rfl⟩:=List.mem_map.1 d;rfl
 intro i hi
 have a:∀j,j<7->(w.alloc (.cells (Doc.forms.flatMap iJ).toArray t)).cell? ⟨w.heap.size,i*7+j,none⟩=(iJ Doc.forms[i])[j]?:=fun j e=>by
  rw[b,xU c i j ahT e];exact aP
 exact⟨a 0 aO,a 1 aO,a 2 aO,a 3 aO,a 4 aO,a 5 aO,a 6 aO⟩
theorem TE (p:Doc.Form->Bool)(l:List Doc.Form)(k:Nat)(h:k<l.length):(l.drop k).any p=(p l[k]||(l.drop (k+1)).any p):=by rw[List.drop_eq_getElem_cons h,List.any_cons]
theorem Jc (x:List UInt8)(w:World) :
 Calls Tryz.prog 229 #[.string ⟨x.toArray⟩] w fun e l=>e=.returned (.bool (Doc.jY x))/\Below w.heap.size w l:=by
 have s:=fJ;have m:Hid (∀i (t:i<Doc.forms.length),lg (w.alloc (.cells (Doc.forms.flatMap iJ).toArray 300)) w.heap.size (i*7) Doc.forms[i]):=KU w 300;have c:Hid (Below w.heap.size w (w.alloc (.cells (Doc.forms.flatMap iJ).toArray 300))):=ag;have n:Hid (Doc.jY x=(Doc.forms.drop 0).any (fun f=>f.word==x)):=rfl;have d:Hid (Doc.forms.length=16):=rfl;have o:=di (Hf w);generalize Doc.jY x=p at *;generalize q:w.alloc (.cells (Doc.forms.flatMap iJ).toArray 300)=wf at *;clear q;generalize Doc.forms=a at *;go_enter Tryz.func229,Tryz.ntmps229;go_wp2_with fail;refine o.o.mono ?_;rintro e u ⟨rfl,rfl⟩;go_wp2_with fail
 go_loop [4] (fun i=>∃k:Nat,i=.int .i64 k/\k<=16/\p=(a.drop k).any (fun f=>f.word==x)) (fun i=>16-(intOf i).toNat)
 case atStart=>exact⟨0,rfl,aO,n.o⟩
 case round=>
  obtain⟨k,rfl,v,g⟩:=hrel;have b:=di g;clear g
  by_cases r:k<16
  ·have h:k<a.length:=by rw[d.o];exact r
   have y:=(m.o k h).word;have j:=di (TE (fun f=>f.word==x) a k h);cases hq:(a[k].word==x)
   ·go_wp2_with fail
    go_round
    case rel=>exact⟨k+1,bJ,aO,by rw[b.o,j.o,hq];rfl⟩
    case measure=>exact akL
   ·go_wp2_with fail;go_ret;exact⟨dK (by rw[b.o,j.o,hq];rfl),c.o⟩
  ·go_wp2_with fail;go_ret;exact⟨dK (by rw[b.o,List.drop_eq_nil_of_le (by rw[d.o];omega)];rfl),c.o⟩
theorem Tryz.VS:(Tryz.prog.info? 176).map (fun i=>(i.zero,i.size,i.bytes))=some (some (.agg #[.string ⟨#[]⟩,.int .i64 0,.int .i64 0,.int .i64 0,.slice none 0 0]),5,64):=bL
def jL (t:Doc.Term)(av:Value):List Value:=[dO t.text,.int .i64 t.op,.int .i64 t.sort,.int .i64 t.sym,av]
theorem OB (w:World)(t:Doc.Term)(a:Option Addr)(m b:Nat)(c:TypeId)(n:Nat)(d:n=w.heap.size):∀j u,(jL t (.slice a m b))[j]?=some u->((w.alloc (.cells #[.string ⟨t.text.toArray⟩,.int .i64 t.op,.int .i64 t.sort,.int .i64 t.sym,.slice a m b] c)).drew).cell? ((⟨n,0,none⟩:Addr).add j)=some u:=by
 subst d;intro j u h;show(w.alloc _).cell? _=_
 match j,h with
 | 0,h=>simp[jL,dO,Addr.add]at h ⊢;exact h
 | 1,h=>simp[jL,Addr.add]at h ⊢;exact h
 | 2,h=>simp[jL,Addr.add]at h ⊢;exact h
 | 3,h=>simp[jL,Addr.add]at h ⊢;exact h
 | 4,h=>simp[jL,Addr.add]at h ⊢;exact h
 | n+5,h=>simp[jL]at h
theorem UO (t:Doc.Term)(b:Option Addr)(m c:Nat):∀u∈jL t (.slice b m c),u.oneCell'=true:=by
 intro u a;simp only[jL,List.mem_cons,List.not_mem_nil,or_false]at a;rcases a with rfl|rfl|rfl|rfl|rfl<;>rfl
def gW (w w':World)(own:Own)(k sb:Nat)(S:Doc.dB)(R:Except Nat (List Doc.Term × Nat))(e:Ending):Prop:=
 ∃own',Fr own own' k w w'/\match R with
  | .ok r=>e=.returned (.tuple #[.int .i64 r.2,.int .i64 0])/\dE w' own' k sb { S with terms:=r.1 }
  | .error er=>e=.returned (.tuple #[.int .i64 0,.int .i64 er])/\dE w' own' k sb S
theorem JE {o:Option Nat}(h:o=some n):placeOf o=n:=by rw[h];rfl
theorem DD (a k:Nat)(own:Own)(S:Doc.dB)(t:Doc.Term)(G:Value)(w:World)(s:dE w own k a S)(H:dH own w)(I:k≠0)(u:eD w own G t.args)(hn:S.terms.length<=80) :
 Calls Tryz.prog 253 #[.pointer (some ⟨a,0,none⟩),.agg #[.string ⟨t.text.toArray⟩,.int .i64 t.op,.int .i64 t.sort,.int .i64 t.sym,G]] w fun e w'=>gW w w' own k a S (Doc.note S.terms t) e:=by
 have hR:=fJ;obtain⟨i0,hi,hz0,hz1,hz2⟩:=info_parts Tryz.VS;have aeG:=u;obtain⟨p,q,rfl,hcA,hmA,_⟩:=aeG;have v:Below w.heap.size w (w.alloc (.cells #[.string ⟨t.text.toArray⟩,.int .i64 t.op,.int .i64 t.sort,.int .i64 t.sym,.slice p t.args.length q] 176)):=ag;have f:=di (TQ a S.terms t.text _ (s.book.terms.below v));have J:Hid (Doc.note S.terms t=match Doc.place S.terms t.text with|some k=>.ok (S.terms,k)|none=>if S.terms.length=80 then .error 9 else .ok (S.terms++[t],S.terms.length)):=rfl;generalize Doc.note S.terms t=R at *;have b:=di s;have x:=di H;have c:=di v;have UC:=di u;clear s H v u;cases hp:Doc.place S.terms t.text with
 | some K=>
  have y:Hid (placeOf (Doc.place S.terms t.text)=(K:Int)):=JE hp;have g:R=.ok (S.terms,K):=by have h:=J.o;rw[hp]at h;exact h
  rw[y.o]at f;clear hp;exact alE
 | none=>
  have y:Hid (placeOf (Doc.place S.terms t.text)=-1):=by show _=_;rw[hp];rfl
  rw[y.o]at f;have L:Hid (R=if S.terms.length=80 then .error 9 else .ok (S.terms++[t],S.terms.length)):=by have h:=J.o;rw[hp]at h;exact h
  clear hp;obtain⟨vT,z,A⟩:=b.o.terms;obtain⟨j,l,rfl,hcap,hmax⟩:=A.form;have B:=di A;have M:=di z;have N:=(c.o.cell (p:=⟨a,1,none⟩) b.o.lt).trans z;clear A z
  by_cases m:S.terms.length=80
  ·have o80:((S.terms.length:Int)==80)=true:=by rw[m];rfl
   have g:R=.error 9:=by rw[L.o,if_pos m]
   clear m;exact alE
  ·have o80:((S.terms.length:Int)==80)=false:=aj aO;have g:R=.ok (S.terms++[t],S.terms.length):=by rw[L.o,if_neg m]
   have hlt:=b.o.lt;obtain⟨r,O,P,Q,x4⟩:=B.o;have T:=di O;have U:=fun o=>(c.o.frozen (p:=⟨a,o,none⟩) hlt).trans (b.o.fr o)
   have V:(Value.slice j S.terms.length l).ownBlock≠some a:=by
    intro h;obtain⟨_,_,c1,hc1⟩:=B.o.type a h;obtain⟨c2,hc2⟩:=b.o.obj;exact gp hc1 hc2 aR rfl
   have C:=di V;have W:=di (show fO (Cm w own) r S.terms/\(∀bn∈r,bn.length=5) from⟨P,Q⟩);clear m O P Q x4 V;go_enter Tryz.func253,Tryz.ntmps253;go_wp2_with fail;refine f.o.mono ?_;rintro e i ⟨rfl,rfl⟩;go_upto_region 6 with fail
   go_cut [] (fun X=>∃D Y d,jg w X own d k a 1 (.slice j S.terms.length l) (.slice (some ⟨D,0,none⟩) (S.terms.length+1) Y)/\X.ownsRow 0 176 5 (.slice (some ⟨D,0,none⟩) (S.terms.length+1) Y) (S.terms.length+1) (r.flatten++jL t (.slice p t.args.length q))/\d D=k)
   case first=>
    go_region_law (refine iH rfl (.tmp 24) (.tmp 26) 78 rfl 0 176 i0 (.agg #[.string ⟨#[]⟩,.int .i64 0,.int .i64 0,.int .i64 0,.slice none 0 0]) 5 64 Tryz.underlying78 hi hz0 hz1 hz2 rfl aR (.slice j S.terms.length l) S.terms.length r.flatten bZ (by exact((T.o.alloc _).alloc _).drew) ⟨w.heap.size+1,0,none⟩ 1 (jL t (.slice p t.args.length q)) bZ rfl (by exact OB _ t _ _ _ _ _ aP) (UO _ _ _ _) aX aO aP ?_;intro Z eZ i hown' E hg1 hg2;have q1:i.cell? ⟨a,1,none⟩=some (.slice j S.terms.length l):=((dP E (a:=⟨a,1,none⟩) aQ (fun e=>C.o e.symm)).trans (dC _ _ ⟨a,1,none⟩ aQ)).trans N;have q2:i.frozen? ⟨a,1,none⟩=false:=((dS E (a:=⟨a,1,none⟩) aQ (fun e=>C.o e.symm)).trans (dI _ _ ⟨a,1,none⟩ aQ)).trans (U 1))
    all_goals
     have hap:=nS (n:=S.terms.length+1) B.o x.o b.o.mine b.o.lt C.o ((c.o.alloc aP _).drew) M.o hown' E hg2;go_wp2_with fail;go_meet
     case rel=>exact⟨Z,eZ,_,hap.1,hap.2.1,aiN⟩
   case rest=>
    obtain⟨Z,eZ,d,F,hown2,qK⟩:=hcut;have hcell:=F.cell;have n:=di F;have HOWN:=di hown2;have uJ:=di qK;clear F hown2 qK N U;go_wp2_with fail;go_ret2;rw[g];have hro:eD wc d (.slice p t.args.length q) t.args:=UC.o.fr n.o.fr I;refine⟨d,n.o.fr,?_,b.o.pK M.o n.o I ?_⟩
    ·congr 2
    ·exact dN.snoc (w:=w) (C:=Cm w own) (v:=.slice j S.terms.length l) ⟨T.o,W.o.1,W.o.2⟩ HOWN.o (fun bq bA h=>rV w wc own d (fun bg hb h0=>⟨n.o.fr.block bg hb aO,by rw[n.o.fr.ext bg hb,h0]⟩) bq bA h) ⟨_,rfl,hro⟩ rfl uJ.o
theorem gW.lift {own:Own}{S:Doc.dB}{R:Except Nat (List Doc.Term × Nat)}(a:dH own w)(b:Below w.heap.size w W)(c:gW W u own n m S R h):gW w u own n m S R h:=by
 exact alI
theorem gW.two {own:Own}{S:Doc.dB}{R:Except Nat (List Doc.Term × Nat)}(b:gW w W own n m S R h):∃c d:Nat,h=.returned (.tuple #[.int .i64 c,.int .i64 d]):=by
 obtain⟨f,g,a⟩:=b;cases R with
 | ok r=>exact⟨r.2,0,a.1⟩
 | error e=>exact⟨0,e,a.1⟩
theorem dH.below {own:Own}(h:dH own w)(a:Below w.heap.size w W):dH own W:=fun b c=>h b (Nat.le_trans a.size c)
theorem VL (g k:Nat)(own:Own)(S:Doc.dB)(x:List UInt8)(w:World)(y:dE w own k g S)(z:dH own w)(Z:k≠0)(hn:S.terms.length<=80)(hx:x.length<=1000000) :
 Calls Tryz.prog 230 #[.pointer (some ⟨g,0,none⟩),.string ⟨x.toArray⟩] w fun e o=>gW w o own k g S (Doc.leaf S.syms S.terms x) e:=by
 have hR:=fJ
 have A:Hid (∀(t:Doc.Term) W,t.args=[]->Below w.heap.size w W->Calls Tryz.prog 253 #[.pointer (some ⟨g,0,none⟩),.agg #[.string ⟨t.text.toArray⟩,.int .i64 t.op,.int .i64 t.sort,.int .i64 t.sym,.slice none 0 0]] W fun e o=>gW w o own k g S (Doc.note S.terms t) e):=
  fun t W ht i=>(DD g k own S t (.slice none 0 0) W (y.below i) (z.below i) Z (by rw[ht];exact eD.nil _ _) hn).mono (fun e o h=>h.lift z i)
 have p:Hid (∀W,Below w.heap.size w W->Calls Tryz.prog 185 #[.pointer (some ⟨g,0,none⟩),.string ⟨x.toArray⟩] W fun e o=>e=.returned (.int .i64 (placeOf (Doc.eX S.syms x)))/\o=W):=
  fun W i=>DV g S.syms S.terms x W (y.below i).book
 have q:=di (fun W=>FB x W hx)
 have r:Hid (Doc.leaf S.syms S.terms x=if x=Doc.lV then Doc.note S.terms ⟨x,1,1,0,[]⟩
  else if x=Doc.kz then Doc.note S.terms ⟨x,2,1,0,[]⟩
  else if Doc.digits x=true then Doc.note S.terms ⟨x,14,2,0,[]⟩
  else match Doc.eX S.syms x with
   | none=>.error 5
   | some s=>if 0<(Doc.gK S.syms s).length then .error 7 else Doc.note S.terms ⟨x,13,Doc.iN S.syms s,s,[]⟩):=rfl
 generalize Doc.leaf S.syms S.terms x=R at *;have B:=di y;have K:=di z;have a:Hid (∀(L M N:Int) ,Below w.heap.size w (w.alloc (.cells #[.string ⟨x.toArray⟩,.int .i64 L,.int .i64 M,.int .i64 N,.slice none 0 0] 176))):=fun L M N=>ag;have HDD:=di (fun s=>Doc.lK (ss:=S.syms) (w:=x) (s:=s));generalize hdg:Doc.digits x=dg at *;generalize hfs:Doc.eX S.syms x=fs at *;clear y z hdg hfs;cases h1:(x==[116,114,117,101])
 ·have d:x≠Doc.lV:=by simpa[Doc.lV] using h1
  cases h2:(x==[102,97,108,115,101])
  ·have j:x≠Doc.kz:=by simpa[Doc.kz] using h2
   cases dg
   ·cases fs with
    | none=>
     have b:R=.error 5:=by have h:=r.o;rw[if_neg d,if_neg j,if_neg aP]at h;exact h
     clear d j;go_enter Tryz.func230,Tryz.ntmps230;go_wp2_with fail;refine(q.o _).mono ?_;rintro e f ⟨rfl,rfl⟩;go_wp2_with fail;refine(p.o _ (a.o 1 1 0)).mono ?_;rintro e f ⟨rfl,rfl⟩;have hm1:placeOf none=-1:=rfl;exact amt
    | some s=>
     have C:R=if 0<(Doc.gK S.syms s).length then .error 7 else Doc.note S.terms ⟨x,13,Doc.iN S.syms s,s,[]⟩:=by have h:=r.o;rw[if_neg d,if_neg j,if_neg aP]at h;exact h
     obtain⟨u,hs2⟩:=HDD.o s rfl;have O:Doc.gK S.syms s=S.syms[s].args:=by unfold Doc.gK;rw[aD u]
     have P:Doc.iN S.syms s=S.syms[s].sort:=by unfold Doc.iN;rw[aD u]
     rw[O,P]at C;have Q:=di C;obtain⟨vS,D,c2⟩:=B.o.book.syms;obtain⟨aS,abX,rfl,hcap,hmax,T⟩:=c2;unfold maxLen at hmax;obtain⟨v,rfl,E⟩:=T s u;obtain⟨av,F,e2⟩:=(E u).args;have U:=(E u).sort;obtain⟨aA,lu,rfl,hcA,hmA,hju⟩:=e2;unfold maxLen at hmA;have V:=ai F;have lb:=ai D;have X:Hid (∀W,Below w.heap.size w W->W.cell? ⟨g,0,none⟩=some (.slice (some ⟨v,0,none⟩) S.syms.length abX)/\W.cell? ⟨v,s*3+1,none⟩=some (.slice aA S.syms[s].args.length lu)/\W.cell? ⟨v,s*3+2,none⟩=some (.int .i64 S.syms[s].sort)):=fun W i=>⟨(i.cell (p:=⟨g,0,none⟩) lb).trans D,(i.cell (p:=⟨v,s*3+1,none⟩) V).trans F,(i.cell (p:=⟨v,s*3+2,none⟩) V).trans U⟩;obtain⟨d1,d2,d3⟩:=X.o _ (a.o 1 1 0);obtain⟨d1',Yv,Yu⟩:=X.o _ (a.o 13 1 0);have hps:placeOf (some s)=(s:Int):=rfl;clear d j C D F U T E O P hs2 hju;generalize S.syms[s].args.length=na at *;generalize S.syms[s].sort=G at *
     by_cases Y:0<na
     ·have b:R=.error 7:=by rw[Q.o,if_pos Y]
      go_enter Tryz.func230,Tryz.ntmps230;go_wp2_with fail;refine(q.o _).mono ?_;rintro e f ⟨rfl,rfl⟩;go_wp2_with fail;refine(p.o _ (a.o 1 1 0)).mono ?_;rintro e f ⟨rfl,rfl⟩;exact amt
     ·have b:R=Doc.note S.terms ⟨x,13,G,s,[]⟩:=by rw[Q.o,if_neg Y]
      have l:=di b;have m:=di (A.o ⟨x,13,G,s,[]⟩ _ rfl (a.o 13 G s));clear b;exact akW
   ·have b:R=Doc.note S.terms ⟨x,14,2,0,[]⟩:=by have h:=r.o;rw[if_neg d,if_neg j,if_pos rfl]at h;exact h
    have l:=di b;have m:=di (A.o ⟨x,14,2,0,[]⟩ _ rfl (a.o 14 2 0));clear b d j;exact akW
  ·have j:x=Doc.kz:=by simpa[Doc.kz] using h2
   have b:R=Doc.note S.terms ⟨x,2,1,0,[]⟩:=by have h:=r.o;rw[if_neg d,if_pos j]at h;exact h
   have l:=di b;have m:=di (A.o ⟨x,2,1,0,[]⟩ _ rfl (a.o 2 1 0));clear b d j;exact akW
 ·have d:x=Doc.lV:=by simpa[Doc.lV] using h1
  have b:R=Doc.note S.terms ⟨x,1,1,0,[]⟩:=by have h:=r.o;rw[if_pos d]at h;exact h
  have l:=di b;have m:=di (A.o ⟨x,1,1,0,[]⟩ _ rfl (a.o 1 1 0));clear b d;exact akW
theorem Rv {a:List Doc.Sym}{t:List dX}(u:Gp w n a t){s:Nat}(f:s<a.length):∃g c h d,a.length<=c/\c<=2 ^ 63-1/\a[s].args.length<=d/\d<=2 ^ 63-1/\
 (∀W,Below w.heap.size w W->W.cell? ⟨n,0,none⟩=some (.slice (some ⟨g,0,none⟩) a.length c)/\W.cell? ⟨g,s*3,none⟩=some (.string ⟨a[s].name.toArray⟩)/\W.cell? ⟨g,s*3+1,none⟩=some (.slice h a[s].args.length d)/\W.cell? ⟨g,s*3+2,none⟩=some (.int .i64 a[s].sort))/\
 (∀j (i:j<a[s].args.length),∃e,h=some ⟨e,0,none⟩/\∀W,Below w.heap.size w W->W.cell? ⟨e,j,none⟩=some (.int .i64 a[s].args[j])):=by
 obtain⟨G,m,v⟩:=u.syms;obtain⟨H,c,rfl,x,o,y⟩:=v;unfold maxLen at o;obtain⟨g,rfl,k⟩:=y s f;obtain⟨I,p,z⟩:=(k f).args;have A:=(k f).sort;have B:=(k f).name;obtain⟨h,d,rfl,C,q,D⟩:=z;unfold maxLen at q;have l:=ai p;have E:=ai m;refine⟨g,c,h,d,x,o,C,q,fun W b=>⟨(b.cell (p:=⟨n,0,none⟩) E).trans m,(b.cell (p:=⟨g,s*3,none⟩) l).trans B,(b.cell (p:=⟨g,s*3+1,none⟩) l).trans p,(b.cell (p:=⟨g,s*3+2,none⟩) l).trans A⟩,fun j i=>?_⟩;obtain⟨e,F,r⟩:=D j i;exact⟨e,F,fun W b=>(b.cell (p:=⟨e,j,none⟩) (ai (r i))).trans (r i)⟩
theorem Hu {a:List dX}(s:mr w n a)(t:dY w v l)(u:∀x∈l,x<a.length):∃f b g c,v=.slice f l.length b/\l.length<=b/\b<=2 ^ 63-1/\a.length<=c/\c<=2 ^ 63-1/\
 (∀W,Below w.heap.size w W->W.cell? ⟨n,1,none⟩=some (.slice g a.length c))/\
 (∀j (h:j<l.length),∃d e,f=some ⟨d,0,none⟩/\g=some ⟨e,0,none⟩/\l[j]<a.length/\∀W,Below w.heap.size w W->W.cell? ⟨d,j,none⟩=some (.int .i64 l[j])/\W.cell? ⟨e,l[j]*5+2,none⟩=some (.int .i64 (Doc.dF a l[j]))):=by
 obtain⟨G,m,y⟩:=s;obtain⟨g,c,rfl,z,o,A⟩:=y;unfold maxLen at o;obtain⟨f,b,rfl,B,p,C⟩:=t;unfold maxLen at p;refine⟨f,b,g,c,rfl,B,p,z,o,fun W i=>(i.cell (p:=⟨n,1,none⟩) (ai m)).trans m,fun j h=>?_⟩;obtain⟨d,D,q⟩:=C j h;have k:l[j]<a.length:=u _ aP;obtain⟨e,E,F⟩:=A l[j] k;have r:=(F k).sort;refine⟨d,e,D,E,k,fun W i=>⟨(i.cell (p:=⟨d,j,none⟩) (ai (q h))).trans (q h),?_⟩⟩;rw[rX k];exact(i.cell (p:=⟨e,l[j]*5+2,none⟩) (ai r)).trans r
theorem Nj (b k:Nat)(own:Own)(S:Doc.dB)(s:Nat)(I:Value)(a:List Nat)(w:World)(h:dE w own k b S)(p:dH own w)(hk:k≠0)(hn:S.terms.length<=80)(r:s<S.syms.length)(u:eD w own I a)(J:∀bg∈a,bg<S.terms.length)
 (hl:∀t∈S.terms,t.text.length<=800) (hnm:S.syms[s].name.length<=1000) (hna:a.length<=1000) :
 Calls Tryz.prog 231 #[.pointer (some ⟨b,0,none⟩),.int .i64 s,I] w fun e i=>gW w i own k b S (Doc.applied S.syms S.terms s a) e:=by
 have hR:=fJ;obtain⟨bn,abX,aA,lu,u1,u2,u3,u4,u5,u6⟩:=Rv h.book r;obtain⟨v,x,aT,jZ,rfl,v1,v2,v3,v4,K,L⟩:=Hu h.book.terms u.ints J
 have wL:Hid (∀(t:Doc.Term) W,t.args=a->Below w.heap.size w W->Calls Tryz.prog 253 #[.pointer (some ⟨b,0,none⟩),.agg #[.string ⟨t.text.toArray⟩,.int .i64 t.op,.int .i64 t.sort,.int .i64 t.sym,.slice v a.length x]] W fun e i=>gW w i own k b S (Doc.note S.terms t) e):=
  fun t W ht g=>(DD b k own S t (.slice v a.length x) W (h.below g) (p.below g) hk (by rw[ht];exact u.below g) hn).mono (fun e i y=>y.lift p g)
 have Oa:Hid (∀W,Below w.heap.size w W->Calls Tryz.prog 254 #[.pointer (some ⟨b,0,none⟩),.string ⟨S.syms[s].name.toArray⟩,.slice v a.length x] W fun e i=>e=.returned (dO (Doc.written S.terms S.syms[s].name a))/\Below W.heap.size W i):=
  fun W g=>CO b S.terms S.syms[s].name (.slice v a.length x) a W (h.below g).book.terms (u.below g).ints J hl hnm hna
 have M:Doc.gK S.syms s=S.syms[s].args:=by unfold Doc.gK;rw[aD r]
 have N:Doc.iN S.syms s=S.syms[s].sort:=by unfold Doc.iN;rw[aD r]
 have O:Doc.jQ S.syms s=S.syms[s].name:=Doc.oo r
 have C:Hid (Doc.applied S.syms S.terms s a=if a.length=0\/a.length≠S.syms[s].args.length then .error 7 else if a.map (Doc.dF S.terms)≠S.syms[s].args then .error 7 else Doc.note S.terms ⟨Doc.written S.terms S.syms[s].name a,13,S.syms[s].sort,s,a⟩):=by
  show _=_;unfold Doc.applied;rw[M,N,O]
 generalize Doc.applied S.syms S.terms s a=R at *;have D:=di h;have E:=di p;have P:=di u5;have jB:=di u6;have mi:=di K;have uM:=di L;obtain⟨d1,d2,d3,d4⟩:=u5 w af;clear h p M N O u5 u6 K L u
 by_cases l:a.length=0
 ·have o0:((a.length:Int)==0)=true:=by rw[l];rfl
  have c:R=.error 7:=by rw[C.o,if_pos (.inl l)]
  clear l;exact amq
 ·have o0:((a.length:Int)==0)=false:=aj aO
  by_cases m:a.length=S.syms[s].args.length
  ·have ol:((a.length:Int) !=(S.syms[s].args.length:Int))=false:=by rw[m];simp
   have HLN:=di m;have Q:Hid (R=if a.map (Doc.dF S.terms)≠S.syms[s].args then .error 7 else Doc.note S.terms ⟨Doc.written S.terms S.syms[s].name a,13,S.syms[s].sort,s,a⟩):=by show _=_;rw[C.o,if_neg aO]
   have hle:a.length<=S.syms[s].args.length:=aO;clear m l;go_enter Tryz.func231,Tryz.ntmps231;go_wp2_with fail
   go_loopw [8] (fun F wr=>∃q:Nat,F=.int .i64 q/\q<=a.length/\(∀j (d:j<a.length) (z:j<S.syms[s].args.length),j<q->Doc.dF S.terms a[j]=S.syms[s].args[j])/\Below w.heap.size w wr) (fun F _=>a.length-(intOf F).toNat)
   case atStart=>exact⟨0,rfl,aO,by intro j _ _ y;omega,af⟩
   case round=>
    obtain⟨q,rfl,hq,T,f⟩:=hrel;obtain⟨c1,c2,c3,c4⟩:=P.o wr f;have c5:=mi.o wr f;have U:=di T;have n:=di f;clear d1 d2 d3 d4 T
    by_cases V:q<a.length
    ·have X:q<S.syms[s].args.length:=aO;obtain⟨ga,gt,rfl,rfl,hal,Y⟩:=uM.o q V;obtain⟨e1,e2⟩:=Y wr f;obtain⟨gs,rfl,Z⟩:=jB.o q X;have e3:=Z wr f;clear Y Z f;generalize A:a[q]=G at *
     by_cases o:Doc.dF S.terms G=S.syms[s].args[q]
     ·have o1:((Doc.dF S.terms G:Int) !=(S.syms[s].args[q]:Int))=false:=by rw[o];simp
      have HSQ:=di o;have HA':=di A;clear o A;go_wp2_with fail;go_quiet (fail);go_wp2_with fail;go_roundw
      case rel=>
       refine⟨q+1,bJ,aO,?_,below_drewN n.o _⟩;intro j d z h3
       by_cases hjq:j=q
       ·subst hjq;rw[HA'.o];exact HSQ.o
       ·exact U.o j d z aO
      case measure=>exact akL
     ·have o1:((Doc.dF S.terms G:Int) !=(S.syms[s].args[q]:Int))=true:=aZ
      have c:R=.error 7:=by
       rw[Q.o,if_pos];intro y;apply o;have d:(a.map (Doc.dF S.terms))[q]?=S.syms[s].args[q]?:=by rw[y]
       rw[List.getElem?_map,aD V,aD X,A]at d;exact ajw
      clear o A;go_wp2_with fail;go_quiet (fail);go_wp2_with fail;go_ret2;rw[c];exact⟨own,Fr.of_below k E.o (below_drewN n.o _),rfl,D.o.below (below_drewN n.o _)⟩
    ·have c:R=Doc.note S.terms ⟨Doc.written S.terms S.syms[s].name a,13,S.syms[s].sort,s,a⟩:=by
      rw[Q.o,if_neg];rw[ne_eq,Decidable.not_not];apply List.ext_getElem
      ·rw[List.length_map];exact HLN.o
      ·intro j d z;rw[List.getElem_map];rw[List.length_map]at d;exact U.o j d z aO
     have Ue:=di c;have HW:=di (Oa.o wr f);clear c f;go_wp2_with fail;refine HW.o.mono ?_;rintro e w1 ⟨rfl,hb1⟩;have B:=n.o.trans (hb1.mono n.o.size);have HB2:=di B;obtain⟨c1',c2',c3',c4'⟩:=P.o w1 B;have HN:=di (wL.o ⟨Doc.written S.terms S.syms[s].name a,13,S.syms[s].sort,s,a⟩ w1 rfl B);generalize Doc.written S.terms S.syms[s].name a=bq at *;clear hb1 B c1 c2 c3 c4 c5;unfold dO;go_wp2_with fail;refine HN.o.mono ?_;rintro e w2 H;obtain⟨bA,q',rfl⟩:=H.two;have HP:=di H;clear H;go_wp2_with fail;go_ret2;rw[Ue.o];exact HP.o
  ·have ol:((a.length:Int) !=(S.syms[s].args.length:Int))=true:=aZ;have c:R=.error 7:=by rw[C.o,if_pos (.inr m)]
   clear m l;exact amq
theorem lg.new (w:World)(f:Doc.Form)(t:TypeId):lg (w.alloc (.cells #[.string ⟨f.word.toArray⟩,.string ⟨f.print.toArray⟩,.int .i64 f.op,.int .i64 f.least,.int .i64 f.most,.int .i64 f.args,.int .i64 f.sort] t)) w.heap.size 0 f:=⟨aP,aP,aP,aP,aP,aP,aP⟩
theorem lg.below {o:Nat}{f:Doc.Form}(h:lg w n o f)(a:Below w.heap.size w W):lg W n o f:=h.block (a.block n (ai h.word))
theorem JK (a:List dX)(x:List UInt8)(b:List Nat)(k:Nat)(h:k<Doc.forms.length):Doc.ja a x b (Doc.forms.drop k)=if Doc.forms[k].word=x then(match Doc.fits a Doc.forms[k] b with|none=>Doc.ja a x b (Doc.forms.drop (k+1))|some c=>match Doc.turned a x Doc.forms[k] b with|none=>.error 8|some l=>Doc.note a ⟨Doc.written a Doc.forms[k].print l,Doc.forms[k].op,c,0,l⟩) else Doc.ja a x b (Doc.forms.drop (k+1)):=by
 rw[List.drop_eq_getElem_cons h]
 conv=>lhs;unfold Doc.ja
 rfl
theorem Km (w:World)(own:Own)(a b:Nat)(t:TypeId)(c:own w.heap.size=0):eD (w.alloc (.cells #[.int .i64 a,.int .i64 b] t)) own (.slice (some ⟨w.heap.size,0,none⟩) 2 2) [a,b]:=by
 refine⟨some ⟨w.heap.size,0,none⟩,2,rfl,aP,aX,fun i hi=>⟨w.heap.size,rfl,c,fun h=>?_⟩⟩
 match i,h with
 | 0,_=>simp
 | 1,_=>simp
theorem Qe:∀f∈Doc.forms,f.print.length<=1000:=aR
theorem ZY:∀f∈Doc.forms,f.word=[62,61]\/f.word=[62]->f.op≠18:=aR
theorem Rc {e:List Doc.Sym}{a:List dX}(f:Doc.gP e a)(k:Nat)(c:k<a.length):a[k].op=15->∃b,a[k].args[0]?=some b/\b<a.length:=by
 intro l;have d:=f.terms k c
 have g:0<a[k].args.length:=by
  cases d.made with
  | bool b=>omega
  | num b=>omega
  | app b=>omega
  | form h i b _ j _ _=>
   have m:=Doc.nQ h i;have n:=Doc.jr j;exact aO
 exact⟨a[k].args[0],aD g,Nat.lt_trans (d.args _ aP) c⟩
theorem JI (i F:Nat)(own:Own)(S:Doc.dB)(x:List UInt8)(G:Value)(a:List Nat)(w:World)(H:dE w own F i S)(hfr:dH own w)(hk:F≠0)(hw:Doc.gP S.syms S.terms)(j:eD w own G a)(hlt:∀u∈a,u<S.terms.length)(hna:a.length<=1000) :
 Calls Tryz.prog 232 #[.pointer (some ⟨i,0,none⟩),.string ⟨x.toArray⟩,G] w fun e p=>gW w p own F i S (Doc.l8 S.terms x a) e:=by
 have hR:=fJ;obtain⟨aB,K7,aT,jZ,rfl,v1,v2,v3,v4,v5,v6⟩:=Hu H.book.terms j.ints hlt;have hn:=hw.many
 have wL:Hid (∀(D:Doc.Term) G W,eD W own G D.args->Below w.heap.size w W->Calls Tryz.prog 253 #[.pointer (some ⟨i,0,none⟩),.agg #[.string ⟨D.text.toArray⟩,.int .i64 D.op,.int .i64 D.sort,.int .i64 D.sym,G]] W fun e p=>gW w p own F i S (Doc.note S.terms D) e):=
  fun D G W hi r=>(DD i F own S D G W (H.below r) (hfr.below r) hk hi hn).mono (fun e p h=>h.lift hfr r)
 have Oa:Hid (∀(f:Doc.Form) v vl W,f∈Doc.forms->(∀u∈v,u<S.terms.length)->v.length<=1000->eD W own vl v->Below w.heap.size w W->Calls Tryz.prog 254 #[.pointer (some ⟨i,0,none⟩),.string ⟨f.print.toArray⟩,vl] W fun e p=>e=.returned (dO (Doc.written S.terms f.print v))/\Below W.heap.size W p):=
  fun f v vl W hf hl hll hi r=>CO i S.terms f.print vl v W (H.below r).book.terms hi.ints hl hw.long (Qe f hf) hll
 have HFI:Hid (∀(f:Doc.Form) fb W,f∈Doc.forms->lg W fb 0 f->Below w.heap.size w W->Calls Tryz.prog 255 #[.pointer (some ⟨i,0,none⟩),.pointer (some ⟨fb,0,none⟩),.slice aB a.length K7] W fun e p=>e=Cv (Doc.fits S.terms f a)/\Below W.heap.size W p):=
  fun f fb W hf hfa r=>WI i fb S.terms f (.slice aB a.length K7) a W (H.below r).book.terms hfa hf (j.below r).ints hlt hna
 have Uk:Hid (∀q W,q<S.terms.length->Below w.heap.size w W->Calls Tryz.prog 234 #[.pointer (some ⟨i,0,none⟩),.int .i64 q] W fun e p=>e=.returned (.bool (Doc.number S.terms q))/\p=W):=
  fun q W hq r=>Pj i S.terms q W (H.below r).book.terms hq (Rc hw q hq)
 have HF:Hid (∀I (h:I<Doc.forms.length),lg (w.alloc (.cells (Doc.forms.flatMap iJ).toArray 300)) w.heap.size (I*7) Doc.forms[I]):=KU w 300;have HB:Hid (Below w.heap.size w (w.alloc (.cells (Doc.forms.flatMap iJ).toArray 300))):=ag;have HL:Hid (Doc.forms.length=16):=rfl;have HFO:=di (Hf w);have HOP:=di (JK S.terms x a);have Xz:Hid (Doc.l8 S.terms x a=Doc.ja S.terms x a (Doc.forms.drop 0)):=rfl;generalize Doc.l8 S.terms x a=R at *;have HS:=di H;have lS:=di hfr;have HA:=di j;have rC:=di hlt;have uM:=di v6;have hsz0:(w.alloc (.cells (Doc.forms.flatMap iJ).toArray 300)).heap.size=w.heap.size+1:=aP;generalize hwf:w.alloc (.cells (Doc.forms.flatMap iJ).toArray 300)=wf at *;clear H hfr j hlt v5 v6 hw hwf;go_enter Tryz.func232,Tryz.ntmps232;go_wp2_with fail;refine HFO.o.mono ?_;rintro e w1 ⟨rfl,rfl⟩;go_wp2_with fail
 go_loopw [9] (fun I wr=>∃q:Nat,I=.int .i64 q/\q<=16/\R=Doc.ja S.terms x a (Doc.forms.drop q)/\Below w1.heap.size w1 wr) (fun I _=>16-(intOf I).toNat)
 case atStart=>exact⟨0,rfl,aO,Xz.o,af⟩
 case round=>
  obtain⟨q,rfl,hq,hres,J⟩:=hrel;have HR:=di hres;have qy:=di J;have hsz:=J.size;clear hres
  by_cases hlq:q<16
  ·have hl:q<Doc.forms.length:=by rw[HL.o];exact hlq
   have E:=(HF.o q hl).below J;have hmem:Doc.forms[q]∈Doc.forms:=aP;have hop:=HOP.o q hl;generalize Doc.forms[q]=f at *;have f0:=E.word;have f1:=E.print;have f2:=E.op;have f3:=E.least;have f4:=E.most;have f5:=E.args;have f6:=E.sort;have hb2:Below w1.heap.size w1 (wr.alloc (.cells #[.string ⟨f.word.toArray⟩,.string ⟨f.print.toArray⟩,.int .i64 f.op,.int .i64 f.least,.int .i64 f.most,.int .i64 f.args,.int .i64 f.sort] 300)):=J.alloc hsz _;have hb3:=HB.o.trans (hb2.mono HB.o.size);have HB2:=di hb2;have HB3:=di hb3;have lQ:=di (lg.new wr f 300);have Q0:=di (HFI.o f wr.heap.size _ hmem lQ.o hb3);have K:=di hmem;have acr:=di hop;clear E hmem hop hb2 hb3 J;cases hwd:(f.word==x)
   ·have hne:f.word≠x:=by simpa using hwd
    have jO:Hid (R=Doc.ja S.terms x a (Doc.forms.drop (q+1))):=by show _=_;rw[HR.o,acr.o,if_neg hne]
    clear hne;go_wp2_with fail;go_roundw
    case rel=>exact⟨q+1,bJ,aO,jO.o,HB2.o⟩
    case measure=>exact akL
   ·have heq:f.word=x:=by simpa using hwd
    have HR2:=HR.o;rw[acr.o,if_pos heq]at HR2;have HR2:=di HR2;have Uy:=di heq;clear heq;go_wp2_with fail;refine Q0.o.mono ?_;rintro e g ⟨he,hb4⟩;have hb5:=HB2.o.trans (hb4.mono HB2.o.size);have hb6:=HB3.o.trans (hb4.mono HB3.o.size);have rF:=di hb5;have b:=di hb6;have s:=di (lQ.o.below hb4);cases hfit:Doc.fits S.terms f a with
    | none=>
     rw[hfit]at he;subst he;have jO:Hid (R=Doc.ja S.terms x a (Doc.forms.drop (q+1))):=by have h:=HR2.o;rw[hfit]at h;exact h
     clear hfit hb4 hb5 hb6;unfold Cv;go_wp2_with fail;go_roundw
     case rel=>exact⟨q+1,bJ,aO,jO.o,rF.o⟩
     case measure=>exact akL
    | some y=>
     rw[hfit]at he;subst he;have HR3:Hid (R=match Doc.turned S.terms x f a with|none=>.error 8|some v=>Doc.note S.terms ⟨Doc.written S.terms f.print v,f.op,y,0,v⟩):=by have h:=HR2.o;rw[hfit]at h;exact h
     have Y8:=di hfit;clear hfit hb4 hb5 hb6;unfold Cv;have q2:=s.o.op;have q1:=s.o.print;simp only[Nat.zero_add]at q1 q2;have DI:w.heap.size<=g.heap.size:=b.o.size
     by_cases t:x=[62,61]\/x=[62]
     ·have hlen:a.length=2:=by
       have L:=Doc.wm f K.o (by rw[Uy.o];rcases t with h|h;exact .inl h;exact .inr (.inl h));have h2:=Doc.jr Y8.o;exact aO
      have z:f.op≠18:=ZY f K.o (by rw[Uy.o];exact t);have o18:((f.op:Int)==18)=false:=aj aO;have A:Doc.turned S.terms x f a=some (Doc.swap a):=by unfold Doc.turned;rw[if_neg z,if_pos t]
      have h0:0<a.length:=aO;have L:1<a.length:=aO;obtain⟨ga,gt1,rfl,hgt1,P8,hc0⟩:=uM.o 0 h0;obtain⟨ga',gt2,m,hgt2,P7,hc1⟩:=uM.o 1 L;injection m with m
      injection m with m;subst m;have a0:=(hc0 g b.o).1;have a1:=(hc1 g b.o).1;have hsw:Doc.swap a=[a[1],a[0]]:=by unfold Doc.swap;rw[getD_lt L,getD_lt h0]
      rw[hsw]at A;have n:R=Doc.note S.terms ⟨Doc.written S.terms f.print [a[1],a[0]],f.op,y,0,[a[1],a[0]]⟩:=by have h:=HR3.o;rw[A]at h;exact h
      have M:=di n;have Fs:=di ((Km g own a[1] a[0] 3 (lS.o _ b.o.size)).below (af.drew))
      have hxs:(x==[62,61])=true\/((x==[62,61])=false/\(x==[62])=true):=by
       cases h:(x==[62,61])
       ·rcases t with h'|h'
        ·rw[h']at h;cases h
        ·exact .inr ⟨rfl,by rw[h'];rfl⟩
       ·exact .inl rfl
      have B:=di ((b.o.alloc b.o.size (.cells #[.int .i64 (a[1]:Nat),.int .i64 (a[0]:Nat)] 3)).drew);have C:=di ((s.o.below ((Below.refl g.heap.size g).alloc ae (.cells #[.int .i64 (a[1]:Nat),.int .i64 (a[0]:Nat)] 3))).below (af.drew))
      have Fv:Hid (∀u∈[a[1],a[0]],u<S.terms.length):=by
       exact amy
      clear hc0 hc1 t hlen hgt1 hgt2 n A hsw z;generalize a[0]=k at *;generalize a[1]=l at *;rcases hxs with hx1|⟨hx1,hx2⟩
      all_goals
       exact ak3
     ·have hx1:(x==[62,61])=false:=by
       rw[beq_eq_false_iff_ne];intro h;exact t (.inl h)
      have hx2:(x==[62])=false:=by
       rw[beq_eq_false_iff_ne];intro h;exact t (.inr h)
      by_cases z:f.op=18
      ·have o18:((f.op:Int)==18)=true:=by rw[z];rfl
       have hlen:a.length=2:=by
        have L:=Doc.wm f K.o (.inr (.inr z));have h2:=Doc.jr Y8.o;exact aO
       have h0:0<a.length:=aO;have L:1<a.length:=aO;obtain⟨ga,gt1,rfl,hgt1,P8,hc0⟩:=uM.o 0 h0;obtain⟨ga',gt2,m,hgt2,P7,hc1⟩:=uM.o 1 L;injection m with m
       injection m with m;subst m;have a0:=(hc0 g b.o).1;have a1:=(hc1 g b.o).1
       have A:Doc.turned S.terms x f a=if Doc.number S.terms a[0]=true then some a else if Doc.number S.terms a[1]=true then some [a[1],a[0]] else none:=by
        unfold Doc.turned Doc.swap;rw[if_pos z,getD_lt h0,getD_lt L]
       have HTH:=di A;have HN0:=di (Uk.o a[0] g P8 b.o);have HN1:=di (Uk.o a[1] g P7 b.o);have Fs:=di ((Km g own a[1] a[0] 3 (lS.o _ b.o.size)).below (af.drew));have B:=di ((b.o.alloc b.o.size (.cells #[.int .i64 (a[1]:Nat),.int .i64 (a[0]:Nat)] 3)).drew);have C:=di ((s.o.below ((Below.refl g.heap.size g).alloc ae (.cells #[.int .i64 (a[1]:Nat),.int .i64 (a[0]:Nat)] 3))).below (af.drew))
       have Fv:Hid (∀u∈[a[1],a[0]],u<S.terms.length):=by
        exact amy
       have UD:=di (HA.o.below b.o);clear hc0 hc1 t hlen hgt1 hgt2 A z;generalize a[0]=k at *;generalize a[1]=l at *;generalize Doc.number S.terms k=n0 at *;generalize Doc.number S.terms l=n1 at *;go_wp2_with fail;refine HN0.o.mono ?_;rintro e wz ⟨rfl,rfl⟩;go_wp2_with fail;refine HN1.o.mono ?_;rintro e wz ⟨rfl,rfl⟩;cases n0
       ·cases n1
        ·have HRR:R=.error 8:=ajE;go_wp2_with fail;go_ret2;rw[HRR];exact⟨own,Fr.of_below F lS.o b.o,rfl,HS.o.below b.o⟩
        ·have n:R=Doc.note S.terms ⟨Doc.written S.terms f.print [l,k],f.op,y,0,[l,k]⟩:=ajE;have M:=di n;clear n;exact ak3
       ·have n:R=Doc.note S.terms ⟨Doc.written S.terms f.print a,f.op,y,0,a⟩:=ajE;have M:=di n;clear n;exact ak6
      ·have o18:((f.op:Int)==18)=false:=aj aO;have A:Doc.turned S.terms x f a=some a:=by unfold Doc.turned;rw[if_neg z,if_neg t]
       have n:R=Doc.note S.terms ⟨Doc.written S.terms f.print a,f.op,y,0,a⟩:=by have h:=HR3.o;rw[A]at h;exact h
       have M:=di n;have UD:=di (HA.o.below b.o);clear n A t z;exact ak6
  ·have HRR:R=.error 7:=by
    rw[HR.o,List.drop_eq_nil_of_le (by rw[HL.o];omega)];rfl
   have hbt:=HB.o.trans (J.mono HB.o.size);have Ij:=di hbt;clear hbt J;go_wp2_with fail;go_ret2;rw[HRR];exact⟨own,Fr.of_below F lS.o Ij.o,rfl,HS.o.below Ij.o⟩
structure oJ (w wr:World)(own um:Own)(k sb d:Nat)(c:Tc)(t:Doc.Tr)(S:Doc.dB)(ts:List Doc.Term)(v:Value)(acc:List Nat):Prop where
 fr:Fr own um k w wr
 stack:dE wr um k sb { S with terms:=ts }
 row:wr.ownsRow (w.heap.size+1) 3 1 v acc.length (acc.map (fun a:Nat=>Value.int .i64 (a:Int)))
 mine:∀b,v.ownBlock=some b->um b=k+1
 box:kg wr w.heap.size 0 c
 Ga:um w.heap.size=0
 tree:ik wr (fun g=>um g=0) d c t
 wf:Doc.gP S.syms ts
 lt:∀a∈acc,a<ts.length
 ext:∃ex,ts=S.terms++ex
 size:w.heap.size<wr.heap.size
theorem kg.fr {own:Own}{o:Nat}(h:kg w m o D)(a:Fr own O n w W)(b:own m≠n):kg W m o D:=h.block (a.block m (ai h.x) b)
theorem kg.new (w:World)(c:Tc)(t:TypeId):kg (w.alloc (.cells #[.string ⟨c.x.toArray⟩,.bool c.bb,.slice c.ao c.m c.cap,.int .i64 c.p] t)) w.heap.size 0 c:=⟨aP,aP,aP,aP⟩
theorem oJ.start {w:World}{own:Own}{k sb d:Nat}{c:Tc}{t:Doc.Tr}{S:Doc.dB}(g:dE w own k sb S)(f:dH own w)(h:ik w (fun i=>own i=0) d c t)(j:Doc.gP S.syms S.terms){W:World}(b:Below (w.heap.size+1) (w.alloc (.cells #[.string ⟨c.x.toArray⟩,.bool c.bb,.slice c.ao c.m c.cap,.int .i64 c.p] 138)) W) :
 oJ w W own own k sb d c t S S.terms (.slice none 0 0) []:=by
 have l:Below w.heap.size w (w.alloc (.cells #[.string ⟨c.x.toArray⟩,.bool c.bb,.slice c.ao c.m c.cap,.int .i64 c.p] 138)):=ag;have e:=l.trans (b.mono aO);refine⟨Fr.of_below k f e,g.below e,World.ownsRow_nil _ _ _ _,(by intro n b;simp[Value.ownBlock]at b),(kg.new w c _).block (b.block _ aO),f _ ae,h.below e,j,(by intro a m;cases m),⟨[],aP⟩,?_⟩;have:=b.size;simp at this;exact aO
theorem oJ.after {wr:World}{own:Own}{S:Doc.dB}{f c:List Doc.Term}(h:oJ w wr own o n m k D Y S f v l)(g:n≠0)(a:Fr o O n wr W)(i:dE W O n m { S with terms:=c })(j:Doc.gP S.syms c)(p:∃e,c=f++e) :
 oJ w W own O n m k D Y S c v l:=by
 obtain⟨e,rfl⟩:=p;obtain⟨q,r⟩:=h.ext;refine⟨h.fr.trans a,i,a.owns h.row (fun b d=>by rw[h.mine b d];omega),fun b d=>?_,h.box.fr a (by rw[h.Ga];omega),?_,h.tree.fr a g,j,fun s t=>by have:=h.lt s t;simp;omega,⟨q++e,by rw[r];simp⟩,Nat.lt_of_lt_of_le h.size a.size⟩
 ·rw[a.ext b (h.row.lt b d).2];exact h.mine b d
 ·rw[a.ext _ h.size];exact h.Ga
theorem oJ.snoc {w wr:World}{own:Own}{k:Nat}{c:Tc}{S:Doc.dB}{r:List Doc.Term}{v:Value}(h:oJ w wr own o k n m c Y S r v l){a:Nat}(x:a<r.length)(i:Below wr.heap.size wr W){g cap:Nat}
 (s:u.ownsRow (w.heap.size+1) 3 1 (.slice (some ⟨g,0,none⟩) (l.length+1) cap) (l.length+1) (l.map (fun a:Nat=>Value.int .i64 (a:Int))++[.int .i64 (a:Int)])) (j:W.grownBy u v.ownBlock) (A:w.heap.size+1<=g) (y:v.ownBlock=some g\/W.heap.size<=g) :
 oJ w u own (dw o g (k+1)) k n m c Y S r (.slice (some ⟨g,0,none⟩) (l.length+1) cap) (l++[a]):=by
 have B:=i.size;have C:=j.size
 have q:∀b,b<wr.heap.size->o b≠k+1->u.heap[b]?=wr.heap[b]?/\dw o g (k+1) b=o b:=fun b d e=>by
  have p:v.ownBlock≠some b:=fun f=>e (h.mine b f);refine⟨(j.block b aO (fun f=>p f.symm)).trans (i.block b d),?_⟩;unfold dw;rw[if_neg];intro f;rcases y with t|t
  ·rw[f]at p;exact p t
  ·exact aO
 have D:g<u.heap.size:=(s.lt g rfl).2;refine⟨⟨?_,?_,?_,?_,?_,?_,?_⟩,?_,?_,?_,?_,?_,?_,h.wf,?_,h.ext,?_⟩
 ·exact(j.os.trans i.os).trans h.fr.os
 ·exact(j.tape.trans i.tape).trans h.fr.tape
 ·exact(j.output.trans i.output).trans h.fr.output
 ·have:=h.fr.size;exact aO
 ·intro b d e;have z:b<wr.heap.size:=Nat.lt_of_lt_of_le d h.fr.size;have p:v.ownBlock≠some b:=fun f=>by have:=(h.row.lt b f).1;omega
  exact((j.block b aO (fun f=>p f.symm)).trans (i.block b z)).trans (h.fr.block b d e)
 ·intro b d;unfold dw;rw[if_neg aO];exact h.fr.ext b d
 ·intro b d;unfold dw;rw[if_neg aO];exact h.fr.fresh b aO
 ·exact h.stack.step (fun b d e=>q b d (by rcases e with e|e<;>rw[e]<;>omega))
 ·simpa using s
 ·intro b d;have:g=b:=by simpa[Value.ownBlock] using d
  subst this;exact aiN
 ·exact h.box.block (q _ h.size (by rw[h.Ga];omega)).1
 ·rw[(q _ h.size (by rw[h.Ga];omega)).2];exact h.Ga
 ·exact ik.kept (fun b d e=>by
   have:=q b d (by rw[show o b=0 from e];omega);exact⟨this.1,by rw[this.2];exact e⟩) m c Y h.tree
 ·intro b d;rcases List.mem_append.1 d with d|d
  ·exact h.lt b d
  ·rw[List.mem_singleton.1 d];exact x
 ·exact aO
theorem CR (b:List Nat):(b.map (fun a:Nat=>[Value.int .i64 (a:Int)])).flatten=b.map (fun a:Nat=>Value.int .i64 (a:Int)):=by
 induction b with
 | nil=>rfl
 | cons a l c=>rw[List.map_cons,List.flatten_cons,c];rfl
def jP (own:Own)(v:Value):Own:=fun b=>if v.ownBlock=some b then 0 else own b
theorem oJ.done {wr:World}{own:Own}{S:Doc.dB}{e:List Doc.Term}(h:oJ w wr own o n m k D Y S e v l) :
 Fr own (jP o v) n w wr/\dE wr (jP o v) n m { S with terms:=e }/\eD wr (jP o v) v l/\dH (jP o v) wr/\jP o v w.heap.size=0:=by
 have j:∀b,o b=0\/o b=n->n≠n+1->jP o v b=o b:=fun b f _=>by
  unfold jP
  by_cases d:v.ownBlock=some b
  ·have:=h.mine b d;exact aO
  ·rw[if_neg d]
 refine⟨⟨h.fr.os,h.fr.tape,h.fr.output,h.fr.size,h.fr.block,?_,?_⟩,h.stack.step (fun b _ f=>⟨rfl,j b f aO⟩),?_,?_,?_⟩
 ·intro b a;unfold jP;rw[if_neg (fun p=>by have:=(h.row.lt b p).1;omega)];exact h.fr.ext b a
 ·intro b a;unfold jP;split
  ·rfl
  ·exact h.fr.fresh b a
 ·have q:=vw (xs:=l.map (fun c:Nat=>[Value.int .i64 (c:Int)])) (n:=l.length) (v:=v) (w:=wr) (base:=w.heap.size+1) (e:=3) (sz:=1) (by
   have:=h.row;rw[show(l.map (fun c:Nat=>[Value.int .i64 (c:Int)])).flatten=l.map (fun c:Nat=>Value.int .i64 (c:Int)) from CR l];exact this) aP (by intro B r;obtain⟨c,_,rfl⟩:=List.mem_map.1 r;rfl)
  obtain⟨s,t,d,u,x,y⟩:=q;refine⟨s,t,d,u,x,fun i hi=>?_⟩;obtain⟨z,g,a,A⟩:=y i hi;refine⟨z,g,?_,fun C=>?_⟩
  ·unfold jP;rw[if_pos (by rw[d,g];rfl)]
  ·have:=A ahT 0 aO (.int .i64 (l[i]:Int)) aP;simpa using this
 ·intro b a;unfold jP;split
  ·rfl
  ·exact h.fr.fresh b a
 ·unfold jP;split
  ·rfl
  ·exact h.Ga
end Go.Proofs.YtbichedkajfmiaaGreatDoor
namespace Doc
theorem vW {ts:List Term}{t:Term}{e:Nat}(h:note ts t=.error e):e≠0:=by
 unfold note at h;split at h
 ·cases h
 ·split at h
  ·exact ajA
  ·cases h
theorem VK {ss:List Sym}{ts:List Term}{x:Str}{e:Nat}(h:leaf ss ts x=.error e):e≠0:=by
 unfold leaf at h
 repeat' split at h
 all_goals first
  | exact vW h
  | (injection h with h;omega)
theorem Ni {ss:List Sym}{ts:List Term}{s:Nat}{args:List Nat}{e:Nat}(h:applied ss ts s args=.error e):e≠0:=by
 unfold applied at h
 repeat' split at h
 all_goals first
  | exact vW h
  | (injection h with h;omega)
theorem MM {ts:List Term}{w:Str}{args:List Nat}{e:Nat}:∀a:List Form,ja ts w args a=.error e->e≠0:=by
 intro a
 induction a with
 | nil=>intro h;injection h with h;omega
 | cons f a b=>
  intro h;unfold ja at h
  repeat' split at h
  all_goals first
   | exact b h
   | exact vW h
   | (injection h with h;omega)
end Doc
namespace Go.Proofs.YtbichedkajfmiaaGreatDoor
open Go.RowKit
variable {W u w:World}{h:Ending}{i j k m n:Nat}{o:Own}
def gU (w w':World)(own:Own)(k sb:Nat)(S:Doc.dB)(R:Except (Nat × Nat) (List Doc.Term × Nat))(e:Ending):Prop:=
 ∃own',Fr own own' k w w'/\match R with
  | .ok r=>(∃p:Nat,e=.returned (.tuple #[.int .i64 r.2,.int .i64 0,.int .i64 p]))/\dE w' own' k sb { S with terms:=r.1 }
  | .error x=>e=.returned (.tuple #[.int .i64 0,.int .i64 x.1,.int .i64 x.2])/\x.1≠0/\∃ex,dE w' own' k sb { S with terms:=S.terms++ex }
theorem gW.term {own:Own}{S:Doc.dB}{d:List Doc.Term}{R:Except Nat (List Doc.Term × Nat)}(g:Fr own o n w W)(h:∃b,d=S.terms++b)(l:gW W u o n m { S with terms:=d } R (.returned (.tuple #[.int .i64 k,.int .i64 i])))
 (p:∀e,R=.error e->e≠0):gU w u own n m S (Doc.ig j R) (.returned (.tuple #[.int .i64 k,.int .i64 i,.int .i64 j])):=by
 obtain⟨q,r,f⟩:=l;refine⟨q,g.trans r,?_⟩;cases R with
 | ok s=>
  obtain⟨a,c⟩:=f;injection a with a
  injection a with a;simp only[Array.mk.injEq,List.cons.injEq,Value.int.injEq,true_and,and_true]at a;exact⟨⟨j,by rw[a.1,a.2]⟩,c⟩
 | error e=>
  obtain⟨a,c⟩:=f;injection a with a
  injection a with a;simp only[Array.mk.injEq,List.cons.injEq,Value.int.injEq,true_and,and_true]at a;obtain⟨b,rfl⟩:=h;exact⟨by rw[a.1,a.2],p e rfl,b,c⟩
theorem gU.below {own:Own}{S:Doc.dB}{R:Except (Nat × Nat) (List Doc.Term × Nat)}(d:gU w W own n m S R h)(a:Below W.heap.size W u):gU w u own n m S R h:=by
 obtain⟨e,c,b⟩:=d;have f:=c.trans (Fr.of_below n c.fresh a);refine⟨e,f,?_⟩;cases R with
 | ok r=>exact⟨b.1,b.2.below a⟩
 | error x=>obtain⟨g,i,j,k⟩:=b;exact⟨g,i,j,k.below a⟩
theorem TL (a k d:Nat)(own:Own)(S:Doc.dB)(p:Nat)(x:List UInt8)(w:World)(g:dE w own k a S)(c:dH own w)(m:k≠0)(n:Doc.gP S.syms S.terms)(o:x.length<=1000000) :
 Calls Tryz.prog 187 #[.pointer (some ⟨a,0,none⟩),.agg #[.string ⟨x.toArray⟩,.bool false,.slice none 0 0,.int .i64 p]] w fun e q=>gU w q own k a S (Doc.term S.syms (d+1) (.word p x) S.terms) e:=by
 have B:=fJ;have b:Below w.heap.size w (w.alloc (.cells #[.string ⟨x.toArray⟩,.bool false,.slice none 0 0,.int .i64 p] 138)):=ag;have r:=di (VL a k own S x _ (g.below b) (c.below b) m n.many o);have s:=di b;have h:=di c;have t:Hid (Doc.term S.syms (d+1) (.word p x) S.terms=Doc.ig p (Doc.leaf S.syms S.terms x)):=rfl;have u:=di (fun e=>Doc.VK (ss:=S.syms) (ts:=S.terms) (x:=x) (e:=e));have C:=di (fun W (v:Below (w.heap.size+1) (w.alloc (.cells #[.string ⟨x.toArray⟩,.bool false,.slice none 0 0,.int .i64 p] 138)) W)=>(kg.new w ⟨x,false,none,0,0,p⟩ 138).block (v.block w.heap.size aO));generalize Doc.term S.syms (d+1) (.word p x) S.terms=R at *;generalize Doc.leaf S.syms S.terms x=y at *;clear b c g;go_enter Tryz.func187,Tryz.ntmps187;go_wp2_with fail;refine r.o.mono ?_;rintro e i j;obtain⟨D,E,rfl⟩:=j.two;obtain⟨z,f,l⟩:=j;have F:i.cell? ⟨w.heap.size,3,none⟩=some (.int .i64 p):=f.cell (p:=⟨w.heap.size,3,none⟩) aP (by rw[h.o w.heap.size ae];omega);have A:Hid (gW _ i own k a S y _):=⟨z,f,l⟩;clear f l;go_wp2_with fail;go_quiet (fail);go_wp2_with fail
 go_ret3
 rw[t.o];exact(gW.term (Fr.of_below k h.o s.o) ⟨[],aP⟩ A.o u.o).below (below_drewN af _)
end Go.Proofs.YtbichedkajfmiaaGreatDoor
