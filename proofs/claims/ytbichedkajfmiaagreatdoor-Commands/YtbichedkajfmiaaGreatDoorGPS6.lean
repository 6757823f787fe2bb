import Derived.Test.YtbichedkajfmiaaGreatDoorGPS0
import Derived.Test.YtbichedkajfmiaaGreatDoorC
set_option maxRecDepth 100000
set_option maxHeartbeats 16000000
namespace Go.Proofs.YtbichedkajfmiaaGreatDoor
open Go.RowKit
variable {W u w:World}{b:List Value}{e:TypeId}{i k m n:Nat}{o:Own}{v:Value}
def kJ (w w':World)(own:Own)(k sb:Nat)(S:Doc.dB):Prop:=∃own',Fr own own' k w w'/\dA w' own' k sb S
theorem kJ.lift {own:Own}{S:Doc.dB}(a:dH own w)(b:Below w.heap.size w W)(h:kJ W u own n m S):kJ w u own n m S:=by
 obtain⟨c,d,e⟩:=h;exact⟨c,(Fr.of_below n a b).trans d,e⟩
theorem kJ.below {own:Own}{S:Doc.dB}(h:kJ w W own n m S)(a:Below W.heap.size W u):kJ w u own n m S:=by
 obtain⟨c,b,d⟩:=h;exact⟨c,b.trans (Fr.of_below n b.dJ a),d.below a⟩
theorem kJ.same {own:Own}{S:Doc.dB}(h:dA w own n m S)(b:dH own w)(a:Below w.heap.size w W):kJ w W own n m S:=⟨own,Fr.of_below n b a,h.below a⟩
theorem ui {a:Type}{own:Own}{S:Doc.dB}{C:List Value->a->Prop}{b:List a}(c:dA w own n m S)(h:dN w own n e k C v b)(d:e≠62):v.ownBlock≠some m:=by
 intro f;obtain⟨_,_,j,g⟩:=h.type m f;obtain⟨l,i⟩:=c.obj;exact gp g i d rfl
theorem Ra (a k n:Nat)(own:Own)(S:Doc.dB)(w:World)(b:dA w own k a S)(h:dH own w)(C:k≠0) :
 Calls Tryz.prog 175 #[.pointer (some ⟨a,0,none⟩),.int .i64 n] w fun e D=>e=.returned (.bool (decide (S.held.length<12)))/\kJ w D own k a (if S.held.length<12 then { S with held:=S.held++[n] } else S):=by
 obtain⟨E,hi,F,G,H⟩:=info_parts Tryz.mI;obtain⟨Q,o,c⟩:=b.held;obtain⟨i,j,rfl,R,T⟩:=c.form;have p:=b.lt;have d:=di b;have q:=di h;have I:=di c
 by_cases f:S.held.length<12
 ·rw[if_pos f,decide_eq_true f];obtain⟨l,r,s,t,J⟩:=id c;have u:=di r;have v:=di (show fO (xP w own) l S.held/\(∀K∈l,K.length=1) from⟨s,t⟩);have m:=di (ui b c aR);have L:=b.fr 2;have x:=di o;clear r s t J c b h;go_enter Tryz.func175,Tryz.ntmps175;go_wp2_with (at_builtin;refine dD rfl (.tmp 15) (.tmp 17) 57 rfl 0 3 E (.int .i64 0) 1 8 Tryz.underlying57 hi F G H rfl aR (.slice i S.held.length j) S.held.length l.flatten rfl (by exact u.o.alloc _) ⟨w.heap.size,0,none⟩ 1 [.int .i64 (n:Int)] rfl rfl bM bX aX aO aP ?_;intro U V y z g M A;have W:y.cell? ⟨a,2,none⟩=some (.slice i S.held.length j):=((dP g (a:=⟨a,2,none⟩) aQ (fun e=>m.o e.symm)).trans (((Below.refl w.heap.size w).alloc ae _).cell (p:=⟨a,2,none⟩) p)).trans o;have X:y.frozen? ⟨a,2,none⟩=false:=((dS g (a:=⟨a,2,none⟩) aQ (fun e=>m.o e.symm)).trans (((Below.refl w.heap.size w).alloc ae _).frozen (p:=⟨a,2,none⟩) p)).trans L);have N:=di (nS (n:=S.held.length+1) I.o q.o d.o.mine d.o.lt m.o ((Below.refl w.heap.size w).alloc ae _) x.o z g A);clear z g M A;go_wp2_with fail;go_ret;obtain⟨B,O,_⟩:=N.o;refine⟨rfl,_,B.fr,d.o.si x.o B C ?_⟩;exact dN.snoc (w:=w) (C:=xP w own) (v:=.slice i S.held.length j) ⟨u.o,v.o.1,v.o.2⟩ O (fun Y Z P=>P) rfl rfl aiN
 ·rw[if_neg f,decide_eq_false f];clear c b h;go_enter Tryz.func175,Tryz.ntmps175;go_wp2_with fail;go_ret;exact⟨rfl,kJ.same d.o q.o af⟩
theorem dN.first {d:Type}{C D:List Value->d->Prop}{b:List d}{a:List (List Value)}(j:(a.take k).length=i)(c:fO C a b/\(∀x∈a,x.length=m))(l:w.ownsRow 0 e m v i (a.take k).flatten)(p:∀f g,C f g->D f g)(q:∀h,v.ownBlock=some h->o h=n):dN w o n e m D v (b.take k):=by
 have r:=c.1.len;subst j;refine⟨a.take k,?_,(c.1.imp p).take k,fun x s=>c.2 x (List.take_subset _ _ s),q⟩;rw[show(b.take k).length=(a.take k).length by simp[r]];exact l
theorem Ac {b c:Type}{C:b->c->Prop}{P:b->Prop}{d:List b}{f:List c}(h:fO C d f)(g:∀e i,C e i->P e):∀x∈d,P x:=by
 induction h with
 | nil=>intro x a;cases a
 | cons j _ k=>
  intro x a;rcases List.mem_cons.1 a with rfl|a
  ·exact g _ _ j
  ·exact k x a
theorem ME {own:Own}{t:Doc.Term}(h:qE w own b t):∃(d e f:Nat) (a:Option Addr) (l c s:Nat),b=[.int .i64 (d:Int),.int .i64 (e:Int),.int .i64 (f:Int),.slice a l c,.int .i64 (s:Int)]:=by
 obtain⟨g,rfl,a,c,rfl,_⟩:=h;exact⟨_,_,_,a,_,c,_,rfl⟩
theorem Rt {own:Own}{t:Doc.Sym}(h:vN w own b t):∃(y:List UInt8) (a:Option Addr) (l c s:Nat),b=[.string ⟨y.toArray⟩,.slice a l c,.int .i64 (s:Int)]:=by
 obtain⟨d,rfl,a,c,rfl,_⟩:=h;exact⟨_,a,_,c,_,rfl⟩
theorem AB (a k n:Nat)(own:Own)(S:Doc.dB)(w:World)(b:dA w own k a S)(p:dH own w)(A:k≠0)(R:n<=1000000)(T:S.terms.length<=2 ^ 63-1) :
 Calls Tryz.prog 126 #[.pointer (some ⟨a,0,none⟩),.int .i64 n] w fun q B=>q=.returned (.tuple #[])/\kJ w B own k a { S with terms:=S.terms.take n }:=by
 obtain⟨U,r,h⟩:=b.terms;obtain⟨C,D,rfl,V,W⟩:=h.form;have s:=b.lt;have i:=di b;have E:=di p;obtain⟨c,t,d,j,F⟩:=id h;have u:=d.len;have G:=di (FZ (.slice C S.terms.length D) c n w (Row.dW t u.symm j) (Ac d (fun v l m=>ME m)) aO aO);have H:=di (show fO (qE w own) c S.terms/\(∀I∈c,I.length=5) from⟨d,j⟩);have J:=b.fr 1;have x:=di r;clear t d j F h b p u;go_enter Tryz.func126,Tryz.ntmps126;go_wp2_with fail;refine G.o.mono ?_;rintro q X ⟨⟨Y,rfl,e⟩,f⟩;obtain⟨y,o⟩:=aJ ((c.take n).length);rw[o]at e;obtain⟨Z,abV,rfl,_,_⟩:=fM e;have K:=di o;have L:=di e;have M:=di f;have q1:=(f.cell (p:=⟨a,1,none⟩) s).trans r;have q2:=(f.frozen (p:=⟨a,1,none⟩) s).trans J;clear e f o;go_wp2_with fail;go_end0;obtain⟨g,N,O⟩:=jU (f:=1) E.o i.o.mine i.o.lt M.o x.o L.o;refine⟨rfl,_,g.fr,i.o.pK x.o g A ?_⟩;exact dN.first K.o H.o N (fun P v m=>qb _ _ _ _ (fun l z Q=>⟨g.fr.block l z aO,by rw[g.fr.ext l z,Q]⟩) P v m) O
end Go.Proofs.YtbichedkajfmiaaGreatDoor
