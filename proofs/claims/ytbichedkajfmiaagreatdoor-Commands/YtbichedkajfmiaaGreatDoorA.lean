theorem ae {n:Nat}:n<=n:=Nat.le_refl n
theorem aj {α:Type}[BEq α][LawfulBEq α]{a b:α}(h:a≠b):(a==b)=false:=beq_eq_false_iff_ne.2 h
theorem aD {α:Type _}{l:List α}{i:Nat}(h:i<l.length):l[i]?=some l[i]:=List.getElem?_eq_getElem h
theorem aJ {α:Sort _}(t:α):∃n,t=n:=⟨t,rfl⟩
theorem aO {p:Prop}(h:p:=by omega):p:=h
theorem aP {p:Prop}(h:p:=by simp):p:=h
theorem aQ {p:Prop}(h:p:=by simp;omega):p:=h
theorem aR {p:Prop}(h:p:=by decide):p:=h
theorem aW {p:Prop}(h:p:=by show w.heap.size<_;omega):p:=h
theorem aX {p:Prop}(h:p:=by unfold maxLen;omega):p:=h
theorem aZ {p:Prop}(h:p:=by simp only[bne_iff_ne,ne_eq];omega):p:=h
theorem bz {p:Prop}(h:p:=by rw[beq_iff_eq];omega):p:=h
theorem bK {p:Prop}(h:p:=by simp;have:=D.o;omega):p:=h
theorem bM {p:Prop}(h:p:=by exact cell_one_new _ _ _):p:=h
theorem bP {p:Prop}(h:p:=by rw[<-Int.natCast_mul];omega):p:=h
theorem bQ {p:Prop}(h:p:=by first|exact b.o.drew|exact b.o|exact below_drewN b.o _):p:=h
theorem bR {p:Prop}(h:p:=by show _≠_;unfold dw;rw[if_pos rfl];omega):p:=h
theorem bS {p:Prop}(h:p:=by (rcases List.mem_append.1 hl with E|E;exact oK.o bg E;rw[List.mem_singleton.1 E];exact HU.o)):p:=h
theorem bT {p:Prop}(h:p:=by have:=ku.o (w.heap.size+1) G.symm;omega):p:=h
theorem bV {p:Prop}(h:p:=by show 0<1000;omega):p:=h
theorem bW {p:Prop}(h:p:=by show _<_;have B:=I.o.bx.lt;simp only[World.size_alloc]at B;exact B):p:=h
theorem bX {p:Prop}(h:p:=by simp;rfl):p:=h
theorem bZ {p:Prop}(h:p:=by simp[Act.eval]):p:=h
theorem cu {p:Prop}(h:p:=by injection h with _ h;omega):p:=h
theorem cK {p:Prop}(h:p:=by show w.heap.size+1<_;omega):p:=h
theorem cO {p:Prop}(h:p:=by rw[b];rfl):p:=h
theorem dh {p:Prop}(h:p:=by show n<_;omega):p:=h
theorem ahT {p:Prop}(h:p:=by simpa using hi):p:=h
theorem ahV {p:Prop}(h:p:=by exact lQ.o _ _ (by simp)):p:=h
theorem ahW {p:Prop}(h:p:=by rw[List.length_append,List.map_append];exact d):p:=h
theorem ahX {p:Prop}(h:p:=by have B:=(HOWN.o.lt q K).1;have W:=z.o.lo;omega):p:=h
theorem ahY {p:Prop}(h:p:=by rw[a.fr.ext m h.lt];exact h.mine):p:=h
theorem ahZ {p:Prop}(h:p:=by rw[<-hW1];simp):p:=h
theorem ah0 {p:Prop}(h:p:=by first|exact af|exact af.drew):p:=h
theorem ah5 {p:Prop}(h:p:=by rw[IntKind.wrap_i64];omega):p:=h
theorem ah6 {p:Prop}(h:p:=by intro o;simp):p:=h
theorem ah7 {p:Prop}(h:p:=by rw[<-L];exact((((h6.set (by show w.heap.size<_;omega) _).set (by show w.heap.size<_;omega) _).set (by show w.heap.size<_;omega) _).set (by show w.heap.size<_;omega) _).set (by show w.heap.size<_;omega) _):p:=h
theorem ah8 {p:Prop}(h:p:=by have:=d.o;omega):p:=h
theorem ah9 {p:Prop}(h:p:=by simp[jv.zero]):p:=h
theorem aib {p:Prop}(h:p:=by have:=h.words;show L.words.length<=_;omega):p:=h
theorem aic {p:Prop}(h:p:=by have:=z.o.lo;omega):p:=h
theorem aid {p:Prop}(h:p:=by exact(HOWN.o.alloc _)):p:=h
theorem aie {p:Prop}(h:p:=by rw[c.o];simp):p:=h
theorem aif {p:Prop}(h:p:=by rw[List.length_append,<-H.o];rfl):p:=h
theorem aih {p:Prop}(h:p:=by have S:a.heap.size+1<=a.heap.size:=ku.o _ e.symm;omega):p:=h
theorem aii {p:Prop}(h:p:=by simp;have:=r.o;omega):p:=h
theorem aij {p:Prop}(h:p:=by simp;have:=c.o;omega):p:=h
theorem aik {p:Prop}(h:p:=by simp[World.setCell]):p:=h
theorem ail {p:Prop}(h:p:=by rw[<-H.o];have:=rA.o;omega):p:=h
theorem aim {p:Prop}(h:p:=by rw[bne_eq_false_iff_eq];omega):p:=h
theorem aio {p:Prop}(h:p:=by have:=xG.o.1;omega):p:=h
theorem aip {p:Prop}(h:p:=by have:=h.ls;show L.ls.length<=_;omega):p:=h
theorem aiq {p:Prop}(h:p:=by have:=h.dM;show L.dM.length<=_;omega):p:=h
theorem air {p:Prop}(h:p:=by show _=_;rw[q.o];rfl):p:=h
theorem ait {p:Prop}(h:p:=by first|(rw[l.o];done)|(rw[l.o];rfl)):p:=h
theorem aiu {p:Prop}(h:p:=by rw[<-Int.natCast_mul,<-Int.natCast_mul];omega):p:=h
theorem aiv {p:Prop}(h:p:=by unfold dw;rw[if_pos rfl]):p:=h
theorem aix {p:Prop}(h:p:=by unfold dw;rw[if_neg (by omega)]):p:=h
theorem aiy {p:Prop}(h:p:=by unfold maxLen;first|omega|(simp;omega)):p:=h
theorem aiz {p:Prop}(h:p:=by simp;have:=rE.o;omega):p:=h
theorem aiA {p:Prop}(h:p:=by rw[<-hW1];exact af.alloc ae _):p:=h
theorem aiB {p:Prop}(h:p:=by have:=ku.o (w.heap.size+1) s.symm;omega):p:=h
theorem aiC {p:Prop}(h:p:=by rw[HN.o];omega):p:=h
theorem aiD {p:Prop}(h:p:=by have:=h.reg;show L.reg.length<=_;omega):p:=h
theorem aiE {p:Prop}(h:p:=by rw[e.o];omega):p:=h
theorem aiF {p:Prop}(h:p:=by injection h):p:=h
theorem aiG {p:Prop}(h:p:=by cases h):p:=h
theorem aiH {p:Prop}(h:p:=by rw[<-H.o];exact hap):p:=h
theorem aiJ {p:Prop}(h:p:=by have:=u.o;omega):p:=h
theorem aiK {p:Prop}(h:p:=by exact(rq.o.alloc _).drew):p:=h
theorem aiL {p:Prop}(h:p:=by rw[d];rfl):p:=h
theorem aiM {p:Prop}(h:p:=by have hx:c.heap.size<c.heap.size:=HVB.o _ s.symm;omega):p:=h
theorem aiN {p:Prop}(h:p:=by simp[dw]):p:=h
theorem aiO {p:Prop}(h:p:=by rw[HN.o];exact htl):p:=h
theorem aiQ {p:Prop}(h:p:=by simp[Lit.zero]):p:=h
theorem aiR {p:Prop}(h:p:=by show _=_;rw[<-hw4];simp[World.setCell];exact HZ2.o):p:=h
theorem aiS {p:Prop}(h:p:=by rw[t.o];exact E.o):p:=h
theorem aiT {p:Prop}(h:p:=by rw[G.o];exact D.o):p:=h
theorem aiU {p:Prop}(h:p:=by rw[F.o];exact H.o):p:=h
theorem aiV {p:Prop}(h:p:=by exact b.o.alloc _):p:=h
theorem aiW {p:Prop}(h:p:=by simpa using a):p:=h
theorem aiX {p:Prop}(h:p:=by have:=rJ.o y1 (List.mem_of_getElem? hy1);omega):p:=h
theorem aiY {p:Prop}(h:p:=by rw[B.o];exact v.o.run):p:=h
theorem aiZ {p:Prop}(h:p:=by have:=rP.o;omega):p:=h
theorem ai1 {p:Prop}(h:p:=by rw[d.o,<-Int.natCast_mul];omega):p:=h
theorem ai2 {p:Prop}(h:p:=by first|exact q.o rfl|exact q.o|exact q.o trivial):p:=h
theorem ai4 {p:Prop}(h:p:=by rw[<-h];simp):p:=h
theorem ai5 {p:Prop}(h:p:=by simp[Lit.cells]):p:=h
theorem ai8 {p:Prop}(h:p:=by rw[b.o];rfl):p:=h
theorem ai9 {p:Prop}(h:p:=by (rcases List.mem_append.1 s with h|h;exact g.o y h;rw[List.mem_singleton.1 h];simp;omega)):p:=h
theorem ajf {p:Prop}(h:p:=by obtain⟨E,F⟩:=o;exact DataW.trod_lt E _ _ _ F):p:=h
theorem ajg {p:Prop}(h:p:=by have:=h.lt;simpa[World.setCell] using this):p:=h
theorem ajh {p:Prop}(h:p:=by simpa using b):p:=h
theorem aji {p:Prop}(h:p:=by show dw own w.heap.size (k+1) a.heap.size≠k;rw[g.o.dJ a.heap.size x];exact u.symm):p:=h
theorem ajj {p:Prop}(h:p:=by rw[bne_iff_ne];omega):p:=h
theorem ajk {p:Prop}(h:p:=by first|omega|(simp;omega)):p:=h
theorem ajl {p:Prop}(h:p:=by (rcases List.mem_append.1 s with h|h;exact g.o y h;rw[List.mem_singleton.1 h];simp)):p:=h
theorem ajm {p:Prop}(h:p:=by injection e with _ e;omega):p:=h
theorem ajn {p:Prop}(h:p:=by unfold dw;rw[if_neg (by omega)];exact e):p:=h
theorem ajo {p:Prop}(h:p:=by simp at h):p:=h
theorem ajp {p:Prop}(h:p:=by rw[dn.jM (show c.toNat=(45:UInt8).toNat from by show c.toNat=45;omega)];rfl):p:=h
theorem ajq {p:Prop}(h:p:=by simpa using h):p:=h
theorem ajt {p:Prop}(h:p:=by simp only[back,List.length_take];omega):p:=h
theorem aju {p:Prop}(h:p:=by simp only[List.flatten_cons,List.flatten_nil,List.append_nil];exact acD.o):p:=h
theorem ajv {p:Prop}(h:p:=by rw[f.ext k l];unfold dw;rw[if_pos rfl]):p:=h
theorem ajw {p:Prop}(h:p:=by simpa using d):p:=h
theorem ajx {p:Prop}(h:p:=by show e.heap.size<L.heap.size;omega):p:=h
theorem ajy {p:Prop}(h:p:=by show d.heap.size<P.heap.size;omega):p:=h
theorem ajz {p:Prop}(h:p:=by show d.heap.size<L.heap.size;omega):p:=h
theorem ajA {p:Prop}(h:p:=by injection h with h;omega):p:=h
theorem ajB {p:Prop}(h:p:=by simpa using f):p:=h
theorem ajC {p:Prop}(h:p:=by simp only[Doc.Tr.width]at c;omega):p:=h
theorem ajD {p:Prop}(h:p:=by simpa using Array.mem_of_getElem? a):p:=h
theorem ajE {p:Prop}(h:p:=by have h:=HR3.o;rw[HTH.o]at h;exact h):p:=h
theorem ajF {p:Prop}(h:p:=by simp only;omega):p:=h
theorem ajG {p:Prop}(h:p:=by rw[C.o];have:=v.o;have:=Uz.o;omega):p:=h
theorem ajH {p:Prop}(h:p:=by intro c a;simp[Value.ownBlock]at a):p:=h
theorem ajI {p:Prop}(h:p:=by simpa[World.setCell] using h.size):p:=h
theorem ajJ {p:Prop}(h:p:=by rw[i]at g;injection g):p:=h
theorem ajK {p:Prop}(h:p:=by rw[<-b];exact⟨⟨[],true,d,m,e,i⟩,rfl⟩):p:=h
theorem ajL {p:Prop}(h:p:=by rw[h.mine];exact c):p:=h
theorem ajM {p:Prop}(h:p:=by rw[<-r];simp):p:=h
theorem ajN {p:Prop}(h:p:=by rw[<-c];simp):p:=h
theorem ajO {p:Prop}(h:p:=by rw[<-G];simp):p:=h
theorem ajP {p:Prop}(h:p:=by exact kH.o.alloc _):p:=h
theorem ajQ {p:Prop}(h:p:=by simpa using z):p:=h
theorem ajR {p:Prop}(h:p:=by rw[dn.kS];simp only[List.length_cons,List.length_nil];omega):p:=h
theorem ajS {p:Prop}(h:p:=by rw[dn.gH];simp only[List.length_cons,List.length_nil];omega):p:=h
theorem ajT {p:Prop}(h:p:=by simp[Addr.add];omega):p:=h
theorem ajU {p:Prop}(h:p:=by have:=iP s k i;omega):p:=h
theorem ajV {p:Prop}(h:p:=by have h:=r.o;rw[if_neg d,if_neg j,if_neg (by simp)]at h;exact h):p:=h
theorem ajW {p:Prop}(h:p:=by show own w.heap.size≠k;omega):p:=h
theorem ajX {p:Prop}(h:p:=by show own a.heap.size≠k;omega):p:=h
theorem ajY {p:Prop}(h:p:=by show _<=w.heap.size+1;omega):p:=h
theorem ajZ {p:Prop}(h:p:=by rw[j.o];exact y.o):p:=h
theorem aj0 {p:Prop}(h:p:=by intro i C;cases C):p:=h
theorem aj1 {p:Prop}(h:p:=by intro f a;cases a):p:=h
theorem aj2 {p:Prop}(h:p:=by intro x b;simp only[List.mem_map]at b;obtain⟨y,_,rfl⟩:=b;rfl):p:=h
theorem aj3 {p:Prop}(h:p:=by simpa[Value.ownBlock] using m):p:=h
theorem aj4 {p:Prop}(h:p:=by simpa[Value.ownBlock] using c):p:=h
theorem aj5 {p:Prop}(h:p:=by simpa[Value.ownBlock] using a):p:=h
theorem aj6 {p:Prop}(h:p:=by rw[j];rfl):p:=h
theorem aj7 {p:Prop}(h:p:=by rw[a.ext n h.lt];exact h.mine):p:=h
theorem aj8 {p:Prop}(h:p:=by rw[K.o];omega):p:=h
theorem aj9 {p:Prop}(h:p:=by rw[<-hw4,aC K];exact Dn.o q K):p:=h
theorem aka {p:Prop}(h:p:=by exact sG _ _ _ _ (by simp)):p:=h
theorem akb {p:Prop}(h:p:=by have:=mq.o;omega):p:=h
theorem akc {p:Prop}(h:p:=by show _≠_;omega):p:=h
theorem akd {p:Prop}(h:p:=by rw[c.o,tQ (by omega)];rfl):p:=h
theorem ake {p:Prop}(h:p:=by rw[List.length_map];omega):p:=h
theorem akf {p:Prop}(h:p:=by rw[List.length_append];omega):p:=h
theorem akg {p:Prop}(h:p:=by rw[Int.natCast_mul];exact j3):p:=h
theorem akh {p:Prop}(h:p:=by injection e):p:=h
theorem aki {p:Prop}(h:p:=by unfold Doc.digit;simp;omega):p:=h
theorem akj {p:Prop}(h:p:=by rw[e];rfl):p:=h
theorem akk {p:Prop}(h:p:=by rw[<-hw4];exact W.set (by show w.heap.size+1<_;omega) _):p:=h
theorem akl {p:Prop}(h:p:=by rcases a with a|⟨k,i,a⟩;rw[a];exact f;rw[a];exact p k i):p:=h
theorem akn {p:Prop}(h:p:=by simp;have:=d.size;omega):p:=h
theorem ako {p:Prop}(h:p:=by rw[c.o];exact X.o.below ag):p:=h
theorem akp {p:Prop}(h:p:=by rw[<-z];simp):p:=h
theorem akq {p:Prop}(h:p:=by rw[<-q];simp):p:=h
theorem akr {p:Prop}(h:p:=by unfold fI;rw[List.map_append,List.sum_append];simp):p:=h
theorem akt {p:Prop}(h:p:=by decide +kernel):p:=h
theorem aku {p:Prop}(h:p:=by simp[Value.ownBlock]at p):p:=h
theorem akv {p:Prop}(h:p:=by rw[R];rfl):p:=h
theorem akw {p:Prop}(h:p:=by rw[C.o];omega):p:=h
theorem akx {p:Prop}(h:p:=by rw[B.o];exact v.o.err):p:=h
theorem aky {p:Prop}(h:p:=by exact B.o.own.alloc _):p:=h
theorem akA {p:Prop}(h:p:=by first|exact a|exact(fF.more (.refl _) 1).trans a):p:=h
theorem akB {p:Prop}(h:p:=by show p a.heap.size≠_;rw[c.o.fresh _ ae];omega):p:=h
theorem akC {p:Prop}(h:p:=by rw[n.o];rfl):p:=h
theorem akD {p:Prop}(h:p:=by rw[Bool.eq_iff_iff,beq_iff_eq,beq_iff_eq];omega):p:=h
theorem akE {p:Prop}(h:p:=by have:=i.o.size;omega):p:=h
theorem akF {p:Prop}(h:p:=by first|exact U.o rfl|exact U.o trivial|exact U.o):p:=h
theorem akG {p:Prop}(h:p:=by first|exact T.o rfl|exact T.o trivial|exact T.o):p:=h
theorem akH {p:Prop}(h:p:=by rw[List.length_append,List.map_append];exact m):p:=h
theorem akI {p:Prop}(h:p:=by rw[List.drop_eq_getElem_cons h,List.all_cons]):p:=h
theorem akL {p:Prop}(h:p:=by simp[intOf];omega):p:=h
theorem ald {p:Prop}(h:p:=by
 have p:l[i]≠40:=fun h=>a (by rw[aD b,h])
 have s:named l[i]=true:=by
  obtain⟨A,c,u⟩:=f;rw[aD b]at c;injection c with c
  rw[c];rcases u with h|h
  ·exact h
  ·rw[c,h]at p;exact absurd rfl p
 obtain⟨v,w,x⟩:=Ja b s;have B:=qB f a;rw[p8 a];refine⟨fun t j h=>?_,fun g q h=>ajo⟩;injection h with m o
 subst m o;rw[mD b,if_neg (by rw[v];simp),if_neg w,if_neg (h00 r a),if_neg x,if_neg aO];rfl):p:=h
theorem alh {p:Prop}(h:p:=by subst O;exact⟨_,rfl,_,_,_,[],p,[],z,trodAll_mk1 (shut_bool Tryz.underlying4 _),trodAll_mk1 (Below.trod laidOut bL (of_decide_eq_true bL) o q C),rfl,q.frame _,fun h=>aiG⟩):p:=h
theorem aln {p:Prop}(h:p:=by have d:=c.x;have f:=c.b;have g:=c.k;have h:=c.p;simp only[jk]at d f g h;exact bodyPost_ret (v:=.tuple #[.agg #[.string ⟨x.toArray⟩,.bool false,.slice none 0 0,.int .i64 i],.int .i64 k,.int .i64 0]) akz rfl ⟨⟨⟨x,false,none,0,0,i⟩,by rw[q.o,<-a],by show _=_;rw[a]⟩,s⟩):p:=h
theorem alG {p:Prop}(h:p:=by
 obtain⟨j,k,e,_,_,c⟩:=h;injection e with e _ _
 subst e;intro i z b;obtain⟨hi,b⟩:=List.getElem?_eq_some_iff.1 b;obtain⟨g,d,f⟩:=c i hi;exact⟨g,d,by rw[<-b];exact f hi⟩):p:=h
theorem alH {p:Prop}(h:p:=by
 have h:a=a.take i++a.drop i:=(List.take_append_drop i a).symm
 have e:wc a=wc (a.take i)+wc (a.drop i):=by
  conv=>lhs;rw[h]
  unfold wc;rw[List.map_append,List.sum_append]
 omega):p:=h
theorem alI {p:Prop}(h:p:=by obtain⟨d,e,f⟩:=c;exact⟨d,(Fr.of_below n a b).trans e,f⟩):p:=h
theorem alJ {p:Prop}(h:p:=by have:=L.o (a++[z]) (t+1) (some ⟨C,0,none⟩) D S (by rw[X.o];exact Gh.o) (fun q p=>by rw[X.o]at p;have:=(Z.o.own.lt q p).1;omega) aO aO HLEN.o;rw[X.o]at this;exact this):p:=h
theorem alS {p:Prop}(h:p:=by
 show _<=_;have e1:fI (a++[z])=fI a+((dn.dec z).length+3):=akr;have e2:=HWT.o;have e3:=Oo.o;have e4:(dn.dec z).length=m.length:=by rw[Um.o]
 omega):p:=h
theorem alW {p:Prop}(h:p:=by rw[m];obtain⟨Te,KH⟩:=F.o.ext;refine⟨zB,F.o.fr.trans rQ.o,rfl,hne,Te++ex,?_⟩;have i:=jN.o;simp only[KH,List.append_assoc]at i;exact i):p:=h
theorem al6 {p:Prop}(h:p:=by simp only[List.length_cons,List.length_nil];omega):p:=h
theorem al7 {p:Prop}(h:p:=by
 rcases List.mem_or_eq_of_mem_set e with b|b
 ·exact g x b
 ·rw[b];rfl):p:=h
theorem al8 {p:Prop}(h:p:=by
 by_cases c:f=q
 ·subst c;rw[if_pos rfl];exact World.cell?_setCell_same _ _ _ b
 ·rw[if_neg c];exact(ak (fun e=>c akh)).trans b):p:=h
theorem al9 {p:Prop}(h:p:=by obtain⟨N,d,f⟩:=M.o;exact⟨N,d,by rw[c.o],by rw[c.o];exact f⟩):p:=h
theorem amf {p:Prop}(h:p:=by obtain⟨b,a⟩:=h.obj;exact(Array.getElem?_eq_some_iff.1 a).1):p:=h
theorem ams {p:Prop}(h:p:=by unfold Func.isWrapper;rw[if_neg akt];exact⟨rfl,rfl⟩):p:=h
theorem amy {p:Prop}(h:p:=by
 intro u j;rcases List.mem_cons.1 j with rfl|j
 ·exact P7
 ·rw[List.mem_singleton.1 j];exact P8):p:=h
theorem amE {p:Prop}(h:p:=by rw[M.o];exact(gU.err (Fr.of_below k lS.o R.o) (HS.o.below R.o) aO).below (below_drewN af _)):p:=h
theorem amM {p:Prop}(h:p:=by simp only[Bool.and_eq_true,decide_eq_true_eq,UInt8.le_iff_toNat_le]at this;exact this):p:=h
theorem amS {p:Prop}(h:p:=by rw[List.findIdx?_eq_some_iff_getElem]at h;obtain⟨a,b,_⟩:=h;exact⟨a,ajh⟩):p:=h
theorem amT {p:Prop}(h:p:=by exact⟨(t _).trans b.neg,(t _).trans b.kind,(t _).trans b.a,(t _).trans b.b⟩):p:=h
theorem amY {p:Prop}(h:p:=by
 have n:Hid (ib S R=(4,p,false,S)):=by show _=_;rw[q.o,if_neg aO];rfl
 have t1:(1:Int)<(b.length:Int):=aO;clear h1;exact ak1):p:=h
