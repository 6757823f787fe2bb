theorem aP {a p:Prop}(x:a)(h:a->p:=by omega):p:=h x
theorem aQ {a b p:Prop}(x:a)(y:b)(h:a->b->p:=by omega):p:=h x y
theorem ae {n:Nat}:n<=n:=Nat.le_refl n
theorem ak {α:Type}[BEq α][LawfulBEq α]{a b:α}(h:a≠b):(a==b)=false:=beq_eq_false_iff_ne.2 h
theorem aG {α:Type _}{l:List α}{i:Nat}{a:α}(h:l[i]?=some a):∃h:i<l.length,l[i]=a:=List.getElem?_eq_some_iff.1 h
theorem aF {α:Type _}{l:List α}{i:Nat}(h:i<l.length):l[i]?=some l[i]:=List.getElem?_eq_getElem h
theorem aK {α:Sort _}(t:α):∃n,t=n:=⟨t,rfl⟩
variable {p:Prop}
theorem aR(h:p:=by omega):p:=h
theorem aW(h:p:=by simp):p:=h
theorem aX(h:p:=by simp;omega):p:=h
theorem aY(h:p:=by decide):p:=h
theorem aZ(h:p:=by show w.heap.size<_;omega):p:=h
theorem bz(h:p:=by unfold maxLen;omega):p:=h
theorem bJ(h:p:=by simp only[bne_iff_ne,ne_eq];omega):p:=h
theorem bM(h:p:=by rw[beq_iff_eq];omega):p:=h
theorem bO(h:p:=by simp;have:=A.o;omega):p:=h
theorem bP(h:p:=by exact cell_one_new _ _ _):p:=h
theorem bQ(h:p:=by rw[<-Int.natCast_mul];omega):p:=h
theorem bT(h:p:=by show _≠_;unfold dG;rw[if_pos rfl];omega):p:=h
theorem bU(h:p:=by first|exact a.o.drew|exact a.o|exact below_drewN a.o _):p:=h
theorem bV(h:p:=by rw[IntKind.wrap_i64];omega):p:=h
theorem bW(h:p:=by (rcases List.mem_append.1 hl with B|B;exact oO.o Z B;rw[List.mem_singleton.1 B];exact HU.o)):p:=h
theorem bX(h:p:=by simp;rfl):p:=h
theorem bY(h:p:=by first|exact af|exact af.drew):p:=h
theorem bZ(h:p:=by show 0<1000;omega):p:=h
theorem cK(h:p:=by show _<_;have x:=F.o.bx.lt;simp only[World.size_alloc]at x;exact x):p:=h
theorem cO(h:p:=by simp[Act.eval]):p:=h
theorem cZ(h:p:=by injection h with _ h;omega):p:=h
theorem dh(h:p:=by show w.heap.size+1<_;omega):p:=h
theorem di(h:p:=by simpa using hi):p:=h
theorem alT(h:p:=by show n<_;omega):p:=h
theorem alU(h:p:=by exact nU.o _ _ (by simp)):p:=h
theorem alW(h:p:=by rw[List.length_append,List.map_append];exact d):p:=h
theorem alX(h:p:=by have x:=(HOWN.o.lt q H).1;have V:=s.o.lo;omega):p:=h
theorem alY(h:p:=by rw[a.fr.ext m h.lt];exact h.mine):p:=h
theorem alZ(h:p:=by rw[<-hW1];simp):p:=h
theorem al5(h:p:=by rw[<-g];simp):p:=h
theorem al6(h:p:=by exact oZ _ _ _ _ rfl):p:=h
theorem al7(h:p:=by intro o;simp):p:=h
theorem al8(h:p:=by rw[<-I];exact((((h6.set (by show w.heap.size<_;omega) _).set (by show w.heap.size<_;omega) _).set (by show w.heap.size<_;omega) _).set (by show w.heap.size<_;omega) _).set (by show w.heap.size<_;omega) _):p:=h
theorem al9(h:p:=by simp;have:=d.o.size;omega):p:=h
theorem ama(h:p:=by simp[kK.zero]):p:=h
theorem ame(h:p:=by rw[HN.o];omega):p:=h
theorem amf(h:p:=by rw[<-i];simp):p:=h
theorem amg(h:p:=by rw[List.length_take];omega):p:=h
theorem amh(h:p:=by have:=h.words;show L.words.length<=_;omega):p:=h
theorem ami(h:p:=by exact(HOWN.o.alloc _)):p:=h
theorem amj(h:p:=by rw[c.o];simp):p:=h
theorem amk(h:p:=by rw[List.length_append,<-E.o];rfl):p:=h
theorem aml(h:p:=by simp;have:=r.o;omega):p:=h
theorem amm(h:p:=by simp;have:=c.o;omega):p:=h
theorem amn(h:p:=by simp[World.setCell]):p:=h
theorem amo(h:p:=by rw[<-E.o];have:=uJ.o;omega):p:=h
theorem amq(h:p:=by have S:a.heap.size+1<=a.heap.size:=Z.o _ e.symm;omega):p:=h
theorem amr(h:p:=by simpa using a):p:=h
theorem amt(h:p:=by rw[bne_eq_false_iff_eq];omega):p:=h
theorem amu(h:p:=by have:=h.ls;show L.ls.length<=_;omega):p:=h
theorem amv(h:p:=by have:=h.eQ;show L.eQ.length<=_;omega):p:=h
theorem amw(h:p:=by show _=_;rw[q.o];rfl):p:=h
theorem amx(h:p:=by first|(rw[j.o];done)|(rw[j.o];rfl)):p:=h
theorem amy(h:p:=by rw[<-Int.natCast_mul,<-Int.natCast_mul];omega):p:=h
theorem amz(h:p:=by unfold dG;rw[if_pos rfl]):p:=h
theorem amB(h:p:=by rw[<-q];simp):p:=h
theorem amC(h:p:=by have:=h.lt;simpa[World.setCell] using this):p:=h
theorem amD(h:p:=by unfold dG;rw[if_neg (by omega)]):p:=h
theorem amF(h:p:=by unfold maxLen;first|omega|(simp;omega)):p:=h
theorem amG(h:p:=by simp;have:=uK.o;omega):p:=h
theorem amH(h:p:=by rw[<-hW1];exact af.alloc ae _):p:=h
theorem amI(h:p:=by have:=h.reg;show L.reg.length<=_;omega):p:=h
theorem amJ(h:p:=by simpa using b):p:=h
theorem amL(h:p:=by rw[e.o];omega):p:=h
theorem amM(h:p:=by injection h):p:=h
theorem amN(h:p:=by rw[<-E.o];exact hap):p:=h
theorem amO(h:p:=by exact(uE.o.alloc _).drew):p:=h
theorem amP(h:p:=by show w.heap.size≠_;omega):p:=h
theorem amQ(h:p:=by simp[dG]):p:=h
theorem amR(h:p:=by rw[HN.o];exact htl):p:=h
theorem amS(h:p:=by rw[HN.o];exact hlt):p:=h
theorem amT(h:p:=by have hx:c.heap.size<c.heap.size:=Yj.o _ s.symm;omega):p:=h
theorem amU(h:p:=by simp[Lit.zero]):p:=h
theorem amV(h:p:=by show _=_;rw[<-e.o,<-C.o,<-O.o];rfl):p:=h
theorem amW(h:p:=by rw[bne_iff_ne];omega):p:=h
theorem amX(h:p:=by show _=_;rw[<-hw4];simp[World.setCell];exact HZ2.o):p:=h
theorem amY(h:p:=by rw[s.o];exact D.o):p:=h
theorem amZ(h:p:=by rw[E.o];exact G.o):p:=h
theorem am0(h:p:=by rw[E.o];exact B.o):p:=h
theorem am1(h:p:=by exact b.o.alloc _):p:=h
theorem am3(h:p:=by rw[A.o];exact u.o.run):p:=h
theorem am5(h:p:=by rw[d.o,<-Int.natCast_mul];omega):p:=h
theorem am6(h:p:=by simp[Lit.cells]):p:=h
theorem am7(h:p:=by rw[c];rfl):p:=h
theorem am8(h:p:=by rw[<-x];simp):p:=h
theorem am9(h:p:=by rw[<-p];simp):p:=h
theorem ana(h:p:=by simpa using f):p:=h
theorem anb(h:p:=by simp[tv,h]):p:=h
theorem anc(h:p:=by rw[b.o];rfl):p:=h
theorem ane(h:p:=by (rcases List.mem_append.1 s with h|h;exact g.o y h;rw[List.mem_singleton.1 h];simp;omega)):p:=h
theorem anf(h:p:=by show w.heap.size+1≠_;omega):p:=h
theorem ani(h:p:=by show dG own w.heap.size (k+1) a.heap.size≠k;rw[f.o.eH a.heap.size v];exact t.symm):p:=h
theorem anj(h:p:=by rw[d];rfl):p:=h
theorem ank(h:p:=by first|omega|(simp;omega)):p:=h
theorem anm(h:p:=by simp[e]):p:=h
theorem ann(h:p:=by (rcases List.mem_append.1 s with h|h;exact g.o y h;rw[List.mem_singleton.1 h];simp)):p:=h
theorem ano(h:p:=by injection e with _ e;omega):p:=h
theorem anp(h:p:=by unfold dG;rw[if_neg (by omega)];exact e):p:=h
theorem anq(h:p:=by simp at h):p:=h
theorem anr(h:p:=by show w.heap.size+1<_;have:=f.o;omega):p:=h
theorem ant(h:p:=by rw[e];rfl):p:=h
theorem anu(h:p:=by rw[dC.ll (show c.toNat=(45:UInt8).toNat from by show c.toNat=45;omega)];rfl):p:=h
theorem anv(h:p:=by simpa using h):p:=h
theorem anA(h:p:=by simp only[back,List.length_take];omega):p:=h
theorem anB(h:p:=by simp only[List.flatten_cons,List.flatten_nil,List.append_nil];exact agr.o):p:=h
theorem anC(h:p:=by rw[f.ext k l];unfold dG;rw[if_pos rfl]):p:=h
theorem anD(h:p:=by rw[<-b];simp):p:=h
theorem anE(h:p:=by rw[<-G];simp):p:=h
theorem anF(h:p:=by simpa using d):p:=h
theorem anL(h:p:=by show e.heap.size<O.heap.size;omega):p:=h
theorem anM(h:p:=by show e.heap.size<M.heap.size;omega):p:=h
theorem anN(h:p:=by show d.heap.size<M.heap.size;omega):p:=h
theorem anO(h:p:=by show _=_;rw[c.o,Bool.eq_iff_iff,decide_eq_true_eq,decide_eq_true_eq];omega):p:=h
theorem anP(h:p:=by injection h with h;omega):p:=h
theorem anQ(h:p:=by simp only[Doc.Tr.width]at c;omega):p:=h
theorem anR(h:p:=by rw[K.o];omega):p:=h
theorem anS(h:p:=by injection e):p:=h
theorem anT(h:p:=by have h:=HR3.o;rw[HTH.o]at h;exact h):p:=h
theorem anU(h:p:=by simp only;omega):p:=h
theorem anV(h:p:=by show c.toNat=45;omega):p:=h
theorem anW(h:p:=by rw[C.o];have:=v.o;have:=YH.o;omega):p:=h
theorem anX(h:p:=by intro c a;simp[Value.ownBlock]at a):p:=h
theorem anY(h:p:=by first|exact below_drewN (below_drewN c.o _) _|exact below_drewN c.o _):p:=h
theorem an1(h:p:=by rw[i]at g;injection g):p:=h
theorem an2(h:p:=by rw[<-b];exact⟨⟨[],true,d,m,e,i⟩,rfl⟩):p:=h
theorem an3(h:p:=by cases h):p:=h
theorem an4(h:p:=by rw[h.mine];exact c):p:=h
theorem an5(h:p:=by rw[<-c];simp):p:=h
theorem an6(h:p:=by rw[<-a];simp):p:=h
theorem an7(h:p:=by exact mh.o.alloc _):p:=h
theorem an8(h:p:=by simpa using z):p:=h
theorem an9(h:p:=by rw[dC.lD];simp only[List.length_cons,List.length_nil];omega):p:=h
theorem aoa(h:p:=by rw[dC.gV];simp only[List.length_cons,List.length_nil];omega):p:=h
theorem aob(h:p:=by simp[Addr.add];omega):p:=h
theorem aoc(h:p:=by have h:=r.o;rw[if_neg d,if_neg j,if_neg (by simp)]at h;exact h):p:=h
theorem aod(h:p:=by show own w.heap.size≠k;omega):p:=h
theorem aoe(h:p:=by show own a.heap.size≠k;omega):p:=h
theorem aof(h:p:=by show _=_;rw[<-e.o,<-f,<-g];rfl):p:=h
theorem aog(h:p:=by show _<=w.heap.size+1;omega):p:=h
theorem aoh(h:p:=by rw[j.o];exact y.o):p:=h
theorem aoi(h:p:=by rw[f];rfl):p:=h
theorem aoj(h:p:=by intro h C;cases C):p:=h
theorem aok(h:p:=by intro f a;cases a):p:=h
theorem aol(h:p:=by exact o.o.alloc _):p:=h
theorem aom(h:p:=by rw[h];simp):p:=h
theorem aoo(h:p:=by intro x b;simp only[List.mem_map]at b;obtain⟨y,_,rfl⟩:=b;rfl):p:=h
theorem aop(h:p:=by simpa[Value.ownBlock] using m):p:=h
theorem aoq(h:p:=by simpa[Value.ownBlock] using c):p:=h
theorem aor(h:p:=by simpa[Value.ownBlock] using a):p:=h
theorem aos(h:p:=by rw[a.ext n h.lt];exact h.mine):p:=h
theorem aot(h:p:=by rw[<-hw4,aD H];exact FW.o q H):p:=h
theorem aou(h:p:=by exact vG _ _ _ _ (by simp)):p:=h
theorem aov(h:p:=by show _≠_;omega):p:=h
theorem aow(h:p:=by rw[d.o];rfl):p:=h
theorem aox(h:p:=by rw[c.o,wN (by omega)];rfl):p:=h
theorem aoy(h:p:=by rw[List.length_map];omega):p:=h
theorem aoz(h:p:=by rw[List.length_drop];omega):p:=h
theorem aoA(h:p:=by rw[List.length_append];omega):p:=h
theorem aoB(h:p:=by rw[Int.natCast_mul];exact j3):p:=h
theorem aoC(h:p:=by rw[<-b];exact f hi):p:=h
theorem aoD(h:p:=by have c:wr.heap.size+1<=wr.heap.size:=lX.o _ e.symm;omega):p:=h
theorem aoE(h:p:=by unfold Doc.digit;simp;omega):p:=h
theorem aoF(h:p:=by rw[<-q];exact af.alloc ae _):p:=h
theorem aoG(h:p:=by rw[<-hw4];exact V.set (by show w.heap.size+1<_;omega) _):p:=h
theorem aoH(h:p:=by rcases a with a|⟨k,i,a⟩;rw[a];exact f;rw[a];exact p k i):p:=h
theorem aoJ(h:p:=by rw[c.o];exact W.o.below ai):p:=h
theorem aoK(h:p:=by rw[h];rfl):p:=h
theorem aoL(h:p:=by rw[<-V.o y v3];exact HZ.o):p:=h
theorem aoM(h:p:=by unfold ib;rw[List.map_append,List.sum_append];simp):p:=h
theorem aoN(h:p:=by unfold iG;split<;>omega):p:=h
theorem aoO(h:p:=by simp[Value.ownBlock]at p):p:=h
theorem aoP(h:p:=by rw[z.o];omega):p:=h
theorem aoQ(h:p:=by rw[j];rfl):p:=h
theorem aoR(h:p:=by rw[Q];rfl):p:=h
theorem aoS(h:p:=by rw[C.o];omega):p:=h
theorem aoT(h:p:=by rw[A.o];exact u.o.err):p:=h
theorem aoU(h:p:=by exact B.o.own.alloc _):p:=h
theorem aoW(h:p:=by first|exact a|exact(gW.more (.refl _) 1).trans a):p:=h
theorem aoX(h:p:=by simp[h]):p:=h
theorem aoY(h:p:=by show p a.heap.size≠_;rw[c.o.fresh _ ae];omega):p:=h
theorem aoZ(h:p:=by show World.ownsRow _ _ _ _ _ _ _;rw[Cj];exact m):p:=h
theorem ao0(h:p:=by rw[n.o];rfl):p:=h
theorem ao3(h:p:=by rw[Bool.eq_iff_iff,beq_iff_eq,beq_iff_eq];omega):p:=h
theorem ao4(h:p:=by rw[A.o];omega):p:=h
theorem ao5(h:p:=by first|exact U.o rfl|exact U.o trivial|exact U.o):p:=h
theorem ao6(h:p:=by first|exact T.o rfl|exact T.o trivial|exact T.o):p:=h
theorem ao7(h:p:=by rw[List.length_append,List.map_append];exact m):p:=h
theorem ao9(h:p:=by rw[i];rfl):p:=h
theorem apa(h:p:=by rw[List.drop_eq_getElem_cons h,List.all_cons]):p:=h
theorem apb(h:p:=by rw[C.o,D.o];exact h):p:=h
theorem apc(h:p:=by show Below _ _ _;rw[<-p];exact af.alloc ae _):p:=h
theorem apd(h:p:=by show Below _ _ _;rw[<-i];exact af.alloc ae _):p:=h
theorem ape(h:p:=by show Below _ _ _;rw[<-g];exact af.alloc ae _):p:=h
theorem apf(h:p:=by show Below _ _ _;rw[<-d];exact af.alloc ae _):p:=h
theorem apg(h:p:=by show Below _ _ _;rw[<-b];exact af.alloc ae _):p:=h
theorem aph(h:p:=by simp[intOf];omega):p:=h
theorem apE(h:p:=by
 obtain⟨j,k,e,_,_,c⟩:=h;injection e with e _ _
 subst e;intro i z b;obtain⟨hi,b⟩:=aG b;obtain⟨g,d,f⟩:=c i hi;exact⟨g,d,aoC⟩):p:=h
theorem apG(h:p:=by
 have p:l[i]≠40:=λh=>a (by rw[aF b,h])
 have s:named l[i]=true:=by
  obtain⟨A,c,u⟩:=f;rw[aF b]at c;injection c with c
  rw[c];rcases u with h|h
  ·exact h
  ·rw[c,h]at p;exact absurd rfl p
 obtain⟨v,w,x⟩:=L8 b s;have B:=tO f a;rw[sP a];refine⟨λt j h=>?_,λg q h=>anq⟩;injection h with m o
 subst m o;rw[oV b,if_neg (by rw[v];simp),if_neg w,if_neg (h00 r a),if_neg x,if_neg aR];rfl):p:=h
theorem ap4(h:p:=by
 have h:a=a.take i++a.drop i:=(List.take_append_drop i a).symm
 have e:wc a=wc (a.take i)+wc (a.drop i):=by
  conv=>lhs;rw[h]
  unfold wc;rw[List.map_append,List.sum_append]
 omega):p:=h
theorem ap5(h:p:=by obtain⟨d,e,f⟩:=c;exact⟨d,(Fr.of_below n a b).trans e,f⟩):p:=h
theorem ap8(h:p:=by have:=L.o (a++[z]) (t+1) (some (dA B 0)) C S (by rw[X.o];exact CW.o) (λq p=>by rw[X.o]at p;have:=(Z.o.own.lt q p).1;omega) aR aR HLEN.o;rw[X.o]at this;exact this):p:=h
theorem aqf(h:p:=by
 show _<=_;have e1:ib (a++[z])=ib a+((dC.dec z).length+3):=aoM;have e2:=HWT.o;have e3:=RX.o;have e4:(dC.dec z).length=m.length:=by rw[K4.o]
 omega):p:=h
theorem aqj(h:p:=by exact⟨0,rfl,aR,aR,World.ownsRow_nil _ _ _ _,af⟩):p:=h
theorem aqm(h:p:=by simp only[List.length_cons,List.length_nil];omega):p:=h
theorem aqn(h:p:=by
 rcases List.mem_or_eq_of_mem_set e with b|b
 ·exact g x b
 ·rw[b];rfl):p:=h
theorem aqr(h:p:=by obtain⟨N,d,e⟩:=M.o;exact⟨N,d,by rw[c.o],by rw[c.o];exact e⟩):p:=h
theorem aqw(h:p:=by obtain⟨b,a⟩:=h.obj;exact(Array.getElem?_eq_some_iff.1 a).1):p:=h
theorem aqF(h:p:=by rename_i e a;obtain⟨x,b,rfl⟩:=List.mem_map.1 (List.mem_of_find?_eq_some a);exact .inr ⟨x,b,rfl⟩):p:=h
theorem aqI(h:p:=by exact⟨1,none,0,0,[],rfl,aR,aR,rfl,HS.o,aW,aR,aR,aR⟩):p:=h
theorem aqP(h:p:=by
 by_cases c:f=q
 ·subst c;rw[if_pos rfl];exact aC b
 ·rw[if_neg c];exact(ax (λe=>c anS)).trans b):p:=h
theorem aqR(h:p:=by exact⟨k+1,_,_,_,_,bL,aR,aR,by rw[y.o];exact Q.o⟩):p:=h
theorem aqT(h:p:=by
 intro u j;rcases List.mem_cons.1 j with rfl|j
 ·exact Uc
 ·rw[List.mem_singleton.1 j];exact Ud):p:=h
theorem aqZ(h:p:=by exact⟨0,0,[],rfl,rfl,aR,aR,rfl,World.ownsRow_nil _ _ _ _,dZ.Ok.nil,by simp[dZ.val],af⟩):p:=h
theorem aq0(h:p:=by exact⟨i+1,dE,[],bL,aR,aR,by first|exact HST.o|exact HST.o.1,by show 0+_<=_;omega,aW⟩):p:=h
theorem aq2(h:p:=by simp only[Bool.and_eq_true,decide_eq_true_eq,UInt8.le_iff_toNat_le]at this;exact this):p:=h
theorem arb(h:p:=by rw[List.findIdx?_eq_some_iff_getElem]at h;obtain⟨a,b,_⟩:=h;exact⟨a,amJ⟩):p:=h
theorem ard(h:p:=by exact⟨(t _).trans b.neg,(t _).trans b.kind,(t _).trans b.a,(t _).trans b.b⟩):p:=h
theorem arh(h:p:=by
 have n:Hid (jg S R=(4,p,false,S)):=by show _=_;rw[q.o,if_neg aR];rfl
 have t1:(1:Int)<(b.length:Int):=aR;clear h1;exact apx):p:=h
