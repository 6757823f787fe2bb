import Derived.Lib.ConvBytes
import Derived.Test.YtbichedkajfmiaaGreatDoorGPS6
import Derived.Test.YtbichedkajfmiaaGreatDoorC
set_option maxRecDepth 100000
set_option maxHeartbeats 16000000
namespace Go.Proofs.YtbichedkajfmiaaGreatDoor
open Go.RowKit
variable {W u w:World}{b:List Value}{e:TypeId}{h:Ending}{i k m n:Nat}{v:Value}
theorem UF (a k:Nat)(own:Own)(S:Doc.dB)(w:World)(b:dA w own k a S) :
 Calls Tryz.prog 108 #[.pointer (some ⟨a,0,none⟩)] w fun e d=>e=.returned (.int .i64 S.levels.length)/\d=w:=by
 obtain⟨v,f,c⟩:=b.levels;obtain⟨g,h,rfl,i,j⟩:=c.form;clear c b;go_enter Tryz.func108,Tryz.ntmps108;go_wp2_with fail;go_ret;exact⟨rfl,rfl⟩
theorem Nw (b k:Nat)(own:Own)(S:Doc.dB)(w:World)(a:dA w own k b S) :
 Calls Tryz.prog 88 #[.pointer (some ⟨b,0,none⟩)] w fun f g=>f=.returned (.agg #[.int .i64 S.syms.length,.int .i64 S.terms.length,.int .i64 S.held.length])/\Below w.heap.size w g:=by
 obtain⟨m,o,c⟩:=a.syms;obtain⟨p,q,rfl,u0,r⟩:=c.form;obtain⟨s,t,d⟩:=a.terms;obtain⟨u,v,rfl,u1,x⟩:=d.form;obtain⟨y,z,e⟩:=a.held;obtain⟨A,B,rfl,u2,C⟩:=e.form;have D:=a.lt;have h:Hid (∀n,Below w.heap.size w ((w.alloc (.cells #[.int .i64 S.syms.length,.int .i64 S.terms.length,.int .i64 S.held.length] 133)).drewN n)):=fun n=>below_drewN ag n;clear c d e a;generalize S.syms.length=i at *;generalize S.terms.length=j at *;generalize S.held.length=l at *;go_enter Tryz.func88,Tryz.ntmps88;go_wp2_with fail;go_region
 all_goals
  go_wp2_with fail;exact bodyPost_ret (v:=.agg #[.int .i64 i,.int .i64 j,.int .i64 l]) (by simp[results,Tryz.results88,go_sem]) rfl ⟨rfl,h.o _⟩
theorem Qm (W:World)(x:List UInt8):∃b a,(convert 9 179 (.string ⟨x.toArray⟩)).run Tryz.prog W=.ok (.slice (some ⟨W.heap.size,0,none⟩) x.length b) a/\(convert 179 9 (.slice (some ⟨W.heap.size,0,none⟩) x.length b)).run Tryz.prog a=.ok (.string ⟨x.toArray⟩) a/\Below W.heap.size W a/\W.heap.size+1=a.heap.size:=by
 have c:=Lib.run_convert_string_bytes (P:=Tryz.prog) W 9 179 5 ⟨x.toArray⟩ Tryz.underlying9 Tryz.underlying179 Tryz.underlying5;have d:(ByteArray.mk x.toArray).size=x.length:=by simp[ByteArray.size]
 rw[d]at c;refine⟨_,_,c,?_,⟨rfl,rfl,rfl,by rw[Lib.bytesWorld_size];omega,fun k f=>Lib.bytesWorld_at_old W _ _ k f⟩,(Lib.bytesWorld_size W _ _).symm⟩;refine run_convert_bytes_back _ 179 9 5 _ _ x Tryz.underlying179 Tryz.underlying5 Tryz.underlying9 (fun j e=>?_);have g:(⟨W.heap.size,0,none⟩:Addr).add j=⟨W.heap.size,j,none⟩:=ajT;rw[g,Lib.bytesWorld_cell W _ _ j (by rw[d];exact e)];simp[List.getD,e]
theorem TP (e k:Nat)(own:Own)(S:Doc.dB)(w:World)(a:dA w own k e S)(n:dH own w)(f:k≠0) :
 Calls Tryz.prog 130 #[.pointer (some ⟨e,0,none⟩)] w fun q r=>q=.returned (.tuple #[])/\kJ w r own k e Doc.dB.empty:=by
 obtain⟨B,o,s⟩:=a.syms;obtain⟨C,t,u⟩:=a.terms;obtain⟨D,v,x⟩:=a.held;obtain⟨E,y,z⟩:=a.levels;have b:=jU (f:=0) (e:=196) (sz:=3) (n:=0) (v':=.slice none 0 0) (ys:=[]) n a.mine a.lt af o (World.ownsRow_nil _ _ _ _);have g:=a.rZ o b.1 f (dN.nil _ _ _ _ _ _);have i:=(b.1.cells 1 aO).trans t;have c:=jU (f:=1) (e:=238) (sz:=5) (n:=0) (v':=.slice none 0 0) (ys:=[]) b.1.fr.dJ g.mine g.lt af i (World.ownsRow_nil _ _ _ _);have h:=g.pK i c.1 f (dN.nil _ _ _ _ _ _);have j:=(c.1.cells 2 aO).trans ((b.1.cells 2 aO).trans v);have d:=jU (f:=2) (e:=3) (sz:=1) (n:=0) (v':=.slice none 0 0) (ys:=[]) c.1.fr.dJ h.mine h.lt af j (World.ownsRow_nil _ _ _ _);have S2:=h.si j d.1 f (dN.nil _ _ _ _ _ _);have l:=(d.1.cells 3 aO).trans ((c.1.cells 3 aO).trans ((b.1.cells 3 aO).trans y));have m:=jU (f:=3) (e:=133) (sz:=3) (n:=0) (v':=.slice none 0 0) (ys:=[]) d.1.fr.dJ S2.mine S2.lt af l (World.ownsRow_nil _ _ _ _);have p:=S2.nI l m.1 f (dN.nil _ _ _ _ _ _);have A:=di (show kJ w _ own k e Doc.dB.empty from⟨_,((b.1.fr.trans c.1.fr).trans d.1.fr).trans m.1.fr,p⟩);have F:=a.fr;clear b g c h d S2 m p s u x z i j l a n;go_enter Tryz.func130,Tryz.ntmps130;go_wp2_with fail;go_end0;exact⟨rfl,A.o⟩
def qc (x:List UInt8)(av:Value)(s:Nat):List Value:=[.string ⟨x.toArray⟩,av,.int .i64 (s:Int)]
theorem OW (w:World)(x:List UInt8)(s:Nat)(a:Option Addr)(m b:Nat)(c:TypeId)(n:Nat)(d:n=w.heap.size):∀j u,(qc x (.slice a m b) s)[j]?=some u->((w.alloc (.cells #[.string ⟨x.toArray⟩,.slice a m b,.int .i64 (s:Int)] c)).drew).cell? ((⟨n,0,none⟩:Addr).add j)=some u:=by
 subst d;exact fun j u h=>qa w (qc x (.slice a m b) s) c j u h
theorem Vg (x:List UInt8)(s:Nat)(b:Option Addr)(m c:Nat):∀u∈qc x (.slice b m c) s,u.oneCell'=true:=by
 intro u a;simp only[qc,List.mem_cons,List.not_mem_nil,or_false]at a;rcases a with rfl|rfl|rfl<;>rfl
structure ab6 (w:World)(own:Own)(wx:World)(t:Doc.Sym)(ao:Option Addr)(cap:Nat):Prop where
 dG:Below w.heap.size w wx
 c0:wx.cell? ⟨w.heap.size,0,none⟩=some (.string ⟨t.name.toArray⟩)
 c1:wx.cell? ⟨w.heap.size,1,none⟩=some (.slice ao t.args.length cap)
 c2:wx.cell? ⟨w.heap.size,2,none⟩=some (.int .i64 t.sort)
 lt:w.heap.size<wx.heap.size
 ro:eD wx own (.slice ao t.args.length cap) t.args
theorem Nk (a k:Nat)(own:Own)(S:Doc.dB)(t:Doc.Sym)(A:Option Addr)(p:Nat)(w:World)(B:dA w own k a S)(T:dH own w)(U:k≠0)(I:dY w (.slice A t.args.length p) t.args)(hlen:t.args.length<=1000) :
 Calls Tryz.prog 124 #[.pointer (some ⟨a,0,none⟩),.agg #[.string ⟨t.name.toArray⟩,.slice A t.args.length p,.int .i64 t.sort]] w fun l w'=>l=.returned (.bool (decide (S.syms.length<8)))/\kJ w w' own k a (if S.syms.length<8 then { S with syms:=S.syms++[t] } else S):=by
 obtain⟨i0,hi,hz0,hz1,hz2⟩:=info_parts Tryz.Kn;have J:Below w.heap.size w (w.alloc (.cells #[.string ⟨t.name.toArray⟩,.slice A t.args.length p,.int .i64 t.sort] 196)):=ag;have V:=di B;have C:=di T;have W:=di J;have UC:=di I;have X:=B.lt;obtain⟨ao',cap',K,k1,k2,_⟩:=id I;injection K with K _ KW
 subst K KW;unfold maxLen at k2;obtain⟨Y,f,g⟩:=B.syms;obtain⟨r,s,rfl,hcap,hmax⟩:=g.form;have HCT:=di f;have PV:=(J.cell (p:=⟨a,0,none⟩) X).trans f;clear g f B T I J
 by_cases D:S.syms.length<8
 ·rw[if_pos D,decide_eq_true D];obtain⟨K7,E,Z,cv2,v,hsB⟩:=Qm (w.alloc (.cells #[.string ⟨t.name.toArray⟩,.slice A t.args.length p,.int .i64 t.sort] 196)) t.name;simp only[World.size_alloc]at Z cv2 v hsB;have L:∀j u,(w.alloc (.cells #[.string ⟨t.name.toArray⟩,.slice A t.args.length p,.int .i64 t.sort] 196)).cell? ⟨w.heap.size,j,none⟩=some u->E.cell? ⟨w.heap.size,j,none⟩=some u:=fun j u h=>(v.cell (p:=⟨w.heap.size,j,none⟩) aW).trans h;have d0:=L 0 (.string ⟨t.name.toArray⟩) aP;have g0:∀j,E.frozen? ⟨w.heap.size,j,none⟩=false:=fun j=>(v.frozen (p:=⟨w.heap.size,j,none⟩) aW).trans aP;obtain⟨b,x⟩:∃b,E.setCell ⟨w.heap.size,0,none⟩ (.string ⟨t.name.toArray⟩)=b:=⟨_,rfl⟩;have M:Below w.heap.size w b:=by rw[<-x];exact(W.o.trans (v.mono aO)).setCell ae _
  have hs1:b.heap.size=w.heap.size+1+1:=by rw[<-x];simp[World.setCell];omega
  have N:∀j u,(w.alloc (.cells #[.string ⟨t.name.toArray⟩,.slice A t.args.length p,.int .i64 t.sort] 196)).cell? ⟨w.heap.size,j,none⟩=some u->b.cell? ⟨w.heap.size,j,none⟩=some u:=fun j u h=>by
   rw[<-x]
   by_cases F:0=j
   ·subst F;have e0:u=.string ⟨t.name.toArray⟩:=by simpa using h.symm
    rw[e0];exact World.cell?_setCell_same _ _ _ d0
   ·rw[ak (fun h=>F aiF)];exact L j u h
  have g1:∀j,b.frozen? ⟨w.heap.size,j,none⟩=false:=fun j=>by rw[<-x,World.frozen?_setCell];exact g0 j
  have d1:=N 1 (.slice A t.args.length p) aP;have Fw:=di (ES (.slice A t.args.length p) t.args b (UC.o.below M) aO);have HB1:=di M;have HY1:=di N;have hlb:w.heap.size<E.heap.size:=aO;clear L N M v;go_enter Tryz.func124,Tryz.ntmps124;go_wp2_with fail;refine Fw.o.mono ?_;rintro l G ⟨⟨c,d,rfl,l1,l2,hown2⟩,m⟩;have hs2:=m.size;have e3:=(m.cell (p:=⟨w.heap.size,1,none⟩) aW).trans d1;have f3:=(m.frozen (p:=⟨w.heap.size,1,none⟩) aW).trans (g1 1)
  have e:Hid (ab6 w own (G.setCell ⟨w.heap.size,1,none⟩ (.slice c t.args.length d)) t c d):=by
   have hc:∀j u,1≠j->(w.alloc (.cells #[.string ⟨t.name.toArray⟩,.slice A t.args.length p,.int .i64 t.sort] 196)).cell? ⟨w.heap.size,j,none⟩=some u->(G.setCell ⟨w.heap.size,1,none⟩ (.slice c t.args.length d)).cell? ⟨w.heap.size,j,none⟩=some u:=fun j u F h=>by
    rw[ak (fun h=>F aiF)];exact(m.cell (p:=⟨w.heap.size,j,none⟩) aW).trans (HY1.o j u h)
   refine⟨(HB1.o.trans (m.mono aO)).setCell ae _,hc 0 _ aO aP,World.cell?_setCell_same _ _ _ e3,hc 2 _ aO aP,by simp[World.setCell];omega,?_⟩;have h3:(G.setCell ⟨w.heap.size,1,none⟩ (.slice c t.args.length d)).ownsRow b.heap.size 3 1 (.slice c t.args.length d) t.args.length (gX t.args):=ownsRow_setCell_below hown2 aW _;exact yD h3 (fun n y=>C.o n aO)
  clear hown2 m d1 Fw PV x Z cv2 d0 g0 g1;go_upto_region 5 with fail;generalize hW:G.setCell ⟨w.heap.size,1,none⟩ (.slice c t.args.length d)=i at *;have o:=V.o.below e.o.dG;have FT:dH own i:=fun n y=>C.o n (Nat.le_trans e.o.dG.size y);obtain⟨Y,f,g⟩:=o.syms
  obtain rfl:Value.slice r S.syms.length s=Y:=by
   have:=(e.o.dG.cell (p:=⟨a,0,none⟩) X).trans HCT.o;rw[f]at this;injection this with this
   exact this.symm
  have hlt3:=o.lt;have b0:=e.o.c0;have b1:=e.o.c1;have b2:=e.o.c2;have blt:=e.o.lt;obtain⟨H,x1,x2,x3,x4⟩:=id g;have rq:=di x1;have su:=o.fr;have O:=di (ui o g aR);have HX:=di (show fO (vN i own) H S.syms/\(∀bg∈H,bg.length=3) from⟨x2,x3⟩);have xE:=di g;have P:=di o;have XL:=di FT;have Mc:=di f;clear x1 x2 x3 x4 g o FT hW e3 f3;go_cut [] (fun wy=>∃Q cap q,jg i wy own q k a 0 (.slice r S.syms.length s) (.slice (some ⟨Q,0,none⟩) (S.syms.length+1) cap)/\wy.ownsRow 0 196 3 (.slice (some ⟨Q,0,none⟩) (S.syms.length+1) cap) (S.syms.length+1) (H.flatten++qc t.name (.slice c t.args.length d) t.sort)/\q Q=k)
  case first=>
   go_region_law (refine iH rfl (.tmp 24) (.tmp 26) 55 rfl 0 196 i0 (.agg #[.string ⟨#[]⟩,.slice none 0 0,.int .i64 0]) 3 48 Tryz.underlying55 hi hz0 hz1 hz2 rfl aR (.slice r S.syms.length s) S.syms.length H.flatten bZ aiK ⟨i.heap.size,0,none⟩ 1 (qc t.name (.slice c t.args.length d) t.sort) bZ rfl (by exact OW _ _ _ _ _ _ _ _ aP) (Vg _ _ _ _ _) aX aO aP ?_;intro ga eZ b hown' R hg1 hg2;have q1:b.cell? ⟨a,0,none⟩=some (.slice r S.syms.length s):=((dP R (a:=⟨a,0,none⟩) aQ (fun l=>O.o l.symm)).trans (dC _ _ ⟨a,0,none⟩ aQ)).trans f;have q2:b.frozen? ⟨a,0,none⟩=false:=((dS R (a:=⟨a,0,none⟩) aQ (fun l=>O.o l.symm)).trans (dI _ _ ⟨a,0,none⟩ aQ)).trans (su 0))
   all_goals
    have hap:=nS (n:=S.syms.length+1) xE.o XL.o P.o.mine P.o.lt O.o (ag.drew) Mc.o hown' R hg2;go_wp2_with fail;go_meet
    case rel=>exact⟨ga,eZ,_,hap.1,hap.2.1,aiN⟩
  case rest=>
   obtain⟨ga,eZ,q,hst,hown3,qK⟩:=hcut;have z:=di hst;have HOWN:=di hown3;have uJ:=di qK;clear hst hown3 qK su b0 b1 b2;go_wp2_with fail;go_ret;have hro:eD wc q (.slice c t.args.length d) t.args:=e.o.ro.fr z.o.fr U;refine⟨rfl,q,(Fr.of_below k C.o e.o.dG).trans z.o.fr,P.o.rZ Mc.o z.o U ?_⟩;exact dN.snoc (w:=i) (C:=vN i own) (v:=.slice r S.syms.length s) ⟨rq.o,HX.o.1,HX.o.2⟩ HOWN.o (fun bn bq h=>kM i wc own q (fun n y h0=>⟨z.o.fr.block n y aO,by rw[z.o.fr.ext n y,h0]⟩) bn bq h) ⟨_,rfl,hro⟩ rfl uJ.o
 ·rw[if_neg D,decide_eq_false D];go_enter Tryz.func124,Tryz.ntmps124;go_wp2_with fail;go_ret;exact⟨rfl,kJ.same V.o C.o W.o⟩
def qg (a b c:Nat):List Value:=[.int .i64 (a:Int),.int .i64 (b:Int),.int .i64 (c:Int)]
theorem Pt (w:World)(a b c:Nat)(d:TypeId)(n:Nat)(e:n=w.heap.size):∀j u,(qg a b c)[j]?=some u->((w.alloc (.cells #[.int .i64 (a:Int),.int .i64 (b:Int),.int .i64 (c:Int)] d)).drew).cell? ((⟨n,0,none⟩:Addr).add j)=some u:=by
 subst e;exact fun j u h=>qa w (qg a b c) d j u h
theorem VD (b c d:Nat):∀u∈qg b c d,u.oneCell'=true:=by
 intro u a;simp only[qg,List.mem_cons,List.not_mem_nil,or_false]at a;rcases a with rfl|rfl|rfl<;>rfl
def dB.lv (S:Doc.dB)(m:Nat):Doc.dB:={ S with levels:=S.levels++List.replicate m (S.syms.length,S.terms.length,S.held.length) }
theorem Xm (b k n:Nat)(own:Own)(S:Doc.dB)(w:World)(o:dA w own k b S)(F:dH own w)(Y:k≠0)(G:S.levels.length<=4)(hn:n<=1000000000) :
 Calls Tryz.prog 128 #[.pointer (some ⟨b,0,none⟩),.int .i64 n] w fun e Z=>e=.returned (.bool (decide (n+S.levels.length<=4)))/\kJ w Z own k b (if n+S.levels.length<=4 then dB.lv S n else S):=by
 obtain⟨i0,hi,hz0,hz1,hz2⟩:=info_parts Tryz.Ko;have H:=di o;have p:=di F;have hlt:=o.lt;have XD:=di (Nw b k own S w o);obtain⟨vT,NB,I⟩:=o.levels;obtain⟨aT,jZ,rfl,hcap,hmax⟩:=I.form;have HCT:=di NB;clear I o F
 by_cases f:n+S.levels.length<=4
 ·rw[if_pos f,decide_eq_true f];have h4':(n:Int)<=4-(S.levels.length:Int):=aO;have v:Hid (∀m,(dB.lv S m).levels.length=S.levels.length+m):=fun m=>by simp[dB.lv]
  have HZ:Hid (dB.lv S 0=S):=by show _=_;unfold dB.lv;simp
  have YP:Hid (∀m,{ dB.lv S m with levels:=(dB.lv S m).levels++[(S.syms.length,S.terms.length,S.held.length)] }=dB.lv S (m+1)):=fun m=>by unfold dB.lv;simp[List.replicate_succ']
  have Dl:Hid (∀W O,Bd W O (qg S.syms.length S.terms.length S.held.length) (S.syms.length,S.terms.length,S.held.length)):=fun W O=>rfl;generalize S.levels.length=L at *;generalize S.syms.length=g at *;generalize S.terms.length=h at *;generalize S.held.length=i at *;clear f;go_enter Tryz.func128,Tryz.ntmps128;go_wp2_with fail;refine XD.o.mono ?_;rintro e a ⟨rfl,q⟩;have r:Below w.heap.size w (a.alloc (.cells #[.int .i64 g,.int .i64 h,.int .i64 i] 133)):=q.alloc q.size _;have hs1:=q.size;have J:own a.heap.size=0:=p.o _ hs1;have HOWN:=di J;have HB2:=di r
  have ug:Hid (∀c W,Fr own c k (a.alloc (.cells #[.int .i64 g,.int .i64 h,.int .i64 i] 133)) W->W.cell? ⟨a.heap.size,0,none⟩=some (.int .i64 g)/\W.cell? ⟨a.heap.size,1,none⟩=some (.int .i64 h)/\W.cell? ⟨a.heap.size,2,none⟩=some (.int .i64 i)/\a.heap.size<W.heap.size):=fun c W j=>
   ⟨j.cell (p:=⟨a.heap.size,0,none⟩) aP ajX,j.cell (p:=⟨a.heap.size,1,none⟩) aP ajX,j.cell (p:=⟨a.heap.size,2,none⟩) aP ajX,by have:=j.size;simp at this;omega⟩
  have Lx:=di (H.o.below r);have XM:Hid (dH own (a.alloc (.cells #[.int .i64 g,.int .i64 h,.int .i64 i] 133))):=fun bg hb=>p.o bg (Nat.le_trans r.size hb);clear q r J;go_wp2_with fail
  go_loopw [6] (fun x wr=>∃(m:Nat) (c:Own),x=.int .i64 m/\m<=n/\Fr own c k (a.alloc (.cells #[.int .i64 g,.int .i64 h,.int .i64 i] 133)) wr/\dA wr c k b (dB.lv S m)) (fun x _=>n-(intOf x).toNat)
  case atStart=>exact⟨0,own,rfl,aO,Fr.refl XM.o k,by rw[HZ.o];exact Lx.o⟩
  case round=>
   obtain⟨m,c,rfl,hm,s,d⟩:=hrel;have y:=di s;have t:=di d;obtain⟨b0,b1,b2,blt⟩:=ug.o c wr s
   by_cases qJ:m<n
   ·have hlt3:=d.lt;obtain⟨vL,z,l⟩:=d.levels;obtain⟨A,B,rfl,ac3,agF⟩:=l.form;rw[v.o m]at ac3 z l;have hl4:L+m<=4:=aO;obtain⟨C,D,K,M,x4⟩:=id l;rw[v.o m]at D;have N:=di D;have su:=d.fr;have E:=di (ui d l aR);have P:=di (show fO (Bd wr c) C (dB.lv S m).levels/\(∀bn∈C,bn.length=3) from⟨K,M⟩);have xE:=di l;have Q:=di z;clear D K M x4 l d s;go_upto_region 7 with fail
    go_region_law (refine iH rfl (.tmp 26) (.tmp 28) 58 rfl 0 133 i0 (.agg #[.int .i64 0,.int .i64 0,.int .i64 0]) 3 24 Tryz.underlying58 hi hz0 hz1 hz2 rfl aR (.slice A (L+m) B) (L+m) C.flatten bZ (by exact(N.o.alloc _).drew) ⟨wr.heap.size,0,none⟩ 1 (qg g h i) bZ rfl (by exact Pt _ _ _ _ _ _ aP) (VD _ _ _) aX aO aP ?_;intro ga eZ a R u hg1 T;have q1:a.cell? ⟨b,3,none⟩=some (.slice A (L+m) B):=((dP u (a:=⟨b,3,none⟩) aQ (fun e=>E.o e.symm)).trans (dC _ _ ⟨b,3,none⟩ aQ)).trans z;have q2:a.frozen? ⟨b,3,none⟩=false:=((dS u (a:=⟨b,3,none⟩) aQ (fun e=>E.o e.symm)).trans (dI _ _ ⟨b,3,none⟩ aQ)).trans (su 3))
    all_goals
     have hap:=di (nS (n:=L+m+1) xE.o y.o.dJ t.o.mine t.o.lt E.o (ag.drew) Q.o R u T);clear R u hg1 T;go_wp2_with fail;go_roundw
     case rel=>
      obtain⟨U,V,_⟩:=hap.o;refine⟨m+1,_,bJ,aO,y.o.trans U.fr,?_⟩;rw[<-YP.o m];refine t.o.nI Q.o U Y ?_;have G:=v.o m;have X:=N.o;rw[<-G]at X V ⊢;exact dN.snoc (w:=wr) (C:=Bd wr c) (v:=.slice A _ B) ⟨X,P.o.1,P.o.2⟩ V (fun bq bA j=>j) (Dl.o _ _) rfl aiN
     case measure=>exact akL
   ·clear s d b0 b1 b2 blt;go_wp2_with fail;go_ret;have aea:m=n:=aO;subst aea;exact⟨rfl,c,(Fr.of_below k p.o HB2.o).trans y.o,t.o⟩
 ·rw[if_neg f,decide_eq_false f];have h4':(4:Int)-(S.levels.length:Int)<(n:Int):=aO;clear f;go_enter Tryz.func128,Tryz.ntmps128;go_wp2_with fail;go_ret;exact⟨rfl,kJ.same H.o p.o af⟩
theorem R4 (h:w.ownsRow n e k v i b)(f:m<=n):w.ownsRow m e k v i b:=by
 refine⟨h.1,?_⟩;rcases h.2 with h|⟨g,a,c,d,j,r⟩
 ·exact .inl h
 ·exact .inr ⟨g,a,c,d,aO,r⟩
def I7 (w w':World)(ty:TypeId)(sz m:Nat)(ys:List Value)(e:Ending):Prop:=∃au cap,e=.returned (.slice au m cap)/\w'.ownsRow w.heap.size ty sz (.slice au m cap) m ys/\Below w.heap.size w w'
theorem oI.to {a:List (List Value)}(b:Below w.heap.size w W)(d:a.length=m)(f:oI u W.heap.size e n a h/\Below W.heap.size W u):I7 w u e n m a.flatten h:=by
 obtain⟨⟨k,rfl,c⟩,g⟩:=f;subst d;obtain⟨i,j,rfl,_,_⟩:=fM c;exact⟨i,j,rfl,R4 c b.size,b.trans (g.mono b.size)⟩
theorem WM {own:Own}{S:Doc.dB}(b:dA w own n m S)(v:dH own w)(x:n≠0)(H:S.syms.length<=1000000)(c:Nat)(I:c<=1000000):∃d e o p,w.cell? ⟨m,0,none⟩=some (.slice d S.syms.length e)/\
 (∀W,Below w.heap.size w W->Calls Tryz.prog 179 #[.slice d S.syms.length e,.int .i64 c] W fun q r=>I7 w r 196 3 o p q)/\
 (∀f i,Below w.heap.size w f->f.ownsRow w.heap.size 196 3 i o p->kJ w (f.setCell ⟨m,0,none⟩ i) own n m { S with syms:=S.syms.take c }):=by
 obtain⟨J,j,s⟩:=b.syms;obtain⟨d,e,rfl,_,_⟩:=s.form;obtain⟨y,z,k,t,K⟩:=id s;have A:=k.len;refine⟨d,e,_,_,j,fun W a=>(DU _ y c W ((Row.dW z A.symm t).below a) (Ac k (fun u l h=>Rt h)) aO aO).mono (fun q r h=>oI.to a rfl h),fun f i B C=>?_⟩;obtain⟨g,D,E⟩:=jU (f:=0) v b.mine b.lt B j C;exact⟨_,g.fr,b.rZ j g x (dN.first rfl ⟨k,t⟩ D (fun F u h=>kM _ _ _ _ (fun l a G=>⟨g.fr.block l a aO,by rw[g.fr.ext l a,G]⟩) F u h) E)⟩
theorem WN {own:Own}{S:Doc.dB}(a:dA w own n m S)(t:dH own w)(u:n≠0)(F:S.held.length<=1000000)(b:Nat)(G:b<=1000000):∃c d j k,w.cell? ⟨m,2,none⟩=some (.slice c S.held.length d)/\
 (∀W,Below w.heap.size w W->Calls Tryz.prog 180 #[.slice c S.held.length d,.int .i64 b] W fun l o=>I7 w o 3 1 j k l)/\
 (∀e f,Below w.heap.size w e->e.ownsRow w.heap.size 3 1 f j k->kJ w (e.setCell ⟨m,2,none⟩ f) own n m { S with held:=S.held.take b }):=by
 obtain⟨H,g,p⟩:=a.held;obtain⟨c,d,rfl,_,_⟩:=p.form;obtain⟨v,x,i,q,I⟩:=id p;have y:=i.len;refine⟨c,d,_,_,g,fun W r=>(Ay _ v b W ((Row.dW x y.symm q).below r) (Ac i (fun z A h=>⟨A,h⟩)) aO aO).mono (fun l o h=>oI.to r rfl h),fun e f B C=>?_⟩;obtain⟨s,D,E⟩:=jU (f:=2) t a.mine a.lt B g C;exact⟨_,s.fr,a.si g s u (dN.first rfl ⟨i,q⟩ D (fun J z h=>h) E)⟩
theorem zZ {own:Own}{S:Doc.dB}(d:dA w own n m S)(D:dH own w)(E:n≠0)(T:S.levels.length<=1000000)(e:Nat)(U:e<=1000000):∃c a u v,w.cell? ⟨m,3,none⟩=some (.slice c S.levels.length a)/\S.levels.length<=a/\a<=2 ^ 63-1/\
 (∀W,Below w.heap.size w W->Calls Tryz.prog 178 #[.slice c S.levels.length a,.int .i64 e] W fun x y=>I7 w y 133 3 u v x)/\
 (∀f k,Below w.heap.size w f->f.ownsRow w.heap.size 133 3 k u v->kJ w (f.setCell ⟨m,3,none⟩ k) own n m { S with levels:=S.levels.take e })/\
 (∀i (hi:i<S.levels.length),∃g,c=some ⟨g,0,none⟩/\g<w.heap.size/\∀W,Below w.heap.size w W->W.cell? ⟨g,i*3,none⟩=some (.int .i64 S.levels[i].1)/\W.cell? ⟨g,i*3+1,none⟩=some (.int .i64 S.levels[i].2.1)/\W.cell? ⟨g,i*3+2,none⟩=some (.int .i64 S.levels[i].2.2)):=by
 obtain⟨V,l,o⟩:=d.levels;obtain⟨c,a,rfl,F,G⟩:=o.form;obtain⟨H,I,p,z,X⟩:=id o;have J:=p.len;refine⟨c,a,_,_,l,F,G,fun W b=>(F3 _ H e W ((Row.dW I J.symm z).below b) (Ac p (fun K q h=>⟨q.1,q.2.1,q.2.2,h⟩)) aO aO).mono (fun x y h=>oI.to b rfl h),fun f k L M=>?_,fun i hi=>?_⟩
 ·obtain⟨A,N,r⟩:=jU (f:=3) D d.mine d.lt L l M;exact⟨_,A.fr,d.nI l A E (dN.first rfl ⟨p,z⟩ N (fun B K h=>h) r)⟩
 ·obtain⟨Y,Z,s,_,_,O⟩:=o.sl;injection s with s _ _
  subst s;obtain⟨g,r,_,P⟩:=O i hi;obtain⟨B,hcl,Q,t⟩:=P hi;have R:B=[.int .i64 (S.levels[i].1:Int),.int .i64 (S.levels[i].2.1:Int),.int .i64 (S.levels[i].2.2:Int)]:=Q;subst R;have C:=t 0 _ aO rfl;have j:=ai C;exact⟨g,r,j,fun W b=>⟨(b.cell (p:=⟨g,i*3,none⟩) j).trans C,(b.cell (p:=⟨g,i*3+1,none⟩) j).trans (t 1 _ aO rfl),(b.cell (p:=⟨g,i*3+2,none⟩) j).trans (t 2 _ aO rfl)⟩⟩
def xM (n:Nat)(S:Doc.dB):Doc.dB:=if n=0 then S else Doc.back S (S.levels.getD (S.levels.length-n) (0,0,0)) (S.levels.take (S.levels.length-n))
theorem aam (a k n:Nat)(own:Own)(S:Doc.dB)(w:World)(i:dA w own k a S)(M:dH own w)(j:k≠0)(g:Doc.fQ S)(hn:n<=1000000000) :
 Calls Tryz.prog 129 #[.pointer (some ⟨a,0,none⟩),.int .i64 n] w fun l w'=>l=.returned (.bool (decide (n<=S.levels.length)))/\kJ w w' own k a (if n<=S.levels.length then xM n S else S):=by
 have N:=di i;have m:=di M;have O:=i.lt;have hl4:=g.rY;have ad3:=g.book.many;have CU:=g.book.few;have hh12:=g.pE;obtain⟨aL,abY,m3,ys3,hcL,hcap,hmax,y,z,aa4⟩:=zZ i M j aO (S.levels.length-n) aO;have A:=di aa4;have EA:=i.fr;clear y z aa4 i M
 by_cases p:n<=S.levels.length
 ·rw[if_pos p,decide_eq_true p]
  by_cases h0:n=0
  ·subst h0;have e0:xM 0 S=S:=rfl;rw[e0];exact amu
  ·obtain⟨q,hq⟩:=aJ (S.levels.length-n);have P:q<S.levels.length:=aO;obtain⟨bq,rfl,hgl,B⟩:=A.o q P;obtain⟨lv,C⟩:=aJ (S.levels[q]);have hlm:lv∈S.levels:=by rw[<-C];exact List.getElem_mem P
   have D:=g.yJ lv hlm;have la:=D.a;have lb:=D.b;have lc:=D.c;rw[C]at B
   have HPP:Hid (xM n S=Doc.back S lv (S.levels.take q)):=by
    show _=_;unfold xM;rw[if_neg h0,hq,List.getD_eq_getElem?_getD,aD P,C];rfl
   rw[HPP.o];have hsub:(S.levels.length:Int)-(n:Int)=(q:Int):=aO;have Fy:Hid (Doc.back S lv (S.levels.take q)={ syms:=S.syms.take lv.1,terms:=S.terms.take lv.2.1,held:=S.held.take lv.2.2,levels:=S.levels.take q }):=rfl;rw[Fy.o];have Di:Hid (S.syms.length<=8/\S.held.length<=12/\S.terms.length<=80):=⟨CU,hh12,ad3⟩;obtain⟨z0,z1,z2⟩:=B w af;obtain⟨y0,y1,y2⟩:=B (w.alloc (.cells #[.int .i64 0,.int .i64 0,.int .i64 0] 133)) ag;obtain⟨b,c,d⟩:=lv;simp only at la lb lc z0 z1 z2 y0 y1 y2 HPP Fy ⊢;clear B hlm D C hq A g p;have e:Below w.heap.size w (w.alloc (.cells #[.int .i64 b,.int .i64 c,.int .i64 d] 133)):=ag;have HB0:=di e;have Q:=(e.cell (p:=⟨a,3,none⟩) O).trans hcL;have afU:Hid (dH own (w.alloc (.cells #[.int .i64 b,.int .i64 c,.int .i64 d] 133))):=fun bg hb=>m.o bg (Nat.le_trans e.size hb);have abn:=fun o=>(e.frozen (p:=⟨a,o,none⟩) O).trans (EA o);obtain⟨aL',agO,m3',agT,E,_,_,y,z,aed⟩:=zZ (N.o.below e) afU.o j aO q aO;rw[Q]at E;injection E with E;injection E with e1 _ e2;subst e1 e2;have mi:=di y;have ae5:=di z;clear y z aed;have hown0:own w.heap.size=0:=m.o _ ae
   have R:Hid (∀own' W,Fr own own' k (w.alloc (.cells #[.int .i64 b,.int .i64 c,.int .i64 d] 133)) W->W.cell? ⟨w.heap.size,0,none⟩=some (.int .i64 b)/\W.cell? ⟨w.heap.size,1,none⟩=some (.int .i64 c)/\W.cell? ⟨w.heap.size,2,none⟩=some (.int .i64 d)/\w.heap.size<W.heap.size):=fun own' W F=>
    ⟨F.cell (p:=⟨w.heap.size,0,none⟩) aP ajW,F.cell (p:=⟨w.heap.size,1,none⟩) aP ajW,F.cell (p:=⟨w.heap.size,2,none⟩) aP ajW,by have:=F.size;simp at this;omega⟩
   have aa2:a<(w.alloc (.cells #[.int .i64 b,.int .i64 c,.int .i64 d] 133)).heap.size:=Nat.lt_of_lt_of_le O e.size;clear e hown0;generalize S.levels.length=bn at *;have hql:(q:Int)<(bn:Int):=aO;go_enter Tryz.func129,Tryz.ntmps129;go_wp2_with fail;refine(mi.o _ af).mono ?_;rintro l w1 ⟨au,abV,rfl,hu,G⟩;have q1:=(G.cell (p:=⟨a,3,none⟩) aa2).trans Q;have q2:=(G.frozen (p:=⟨a,3,none⟩) aa2).trans (abn 3);have YJ:=di (ae5.o w1 _ G hu);clear hu G z0 z1 z2 y0 y1 y2 hcL Q EA abn;go_upto_region 8 with fail
   generalize w1.setCell ⟨a,3,none⟩ (.slice au m3' abV)=wa at *;obtain⟨JH,H,I⟩:=YJ.o;obtain⟨r,s,t,u⟩:=R.o JH wa H;obtain⟨a0,p0,m0,ys0,hc0,SI,aaR⟩:=WM I H.dJ j ajF b aO;have Dp:=di SI;have ace:=di aaR;have T:=I.lt;have abm:=I.fr 0;have Ux:=di H;clear SI aaR I H;go_cut [] (fun U=>kJ (w.alloc (.cells #[.int .i64 b,.int .i64 c,.int .i64 d] 133)) U own k a { syms:=S.syms.take b,terms:=S.terms,held:=S.held,levels:=S.levels.take q })
   case first=>
    go_region_with (go_at_call 179;refine(Dp.o _ ah0).mono ?_;rintro l v ⟨V,X,rfl,Y,f⟩;have r1:=(f.cell (p:=⟨a,0,none⟩) T).trans hc0;have r2:=(f.frozen (p:=⟨a,0,none⟩) T).trans abm)
    all_goals
     have x:Hid (kJ (w.alloc (.cells #[.int .i64 b,.int .i64 c,.int .i64 d] 133)) (v.setCell ⟨a,0,none⟩ (.slice V m0 X)) own k a { syms:=S.syms.take b,terms:=S.terms,held:=S.held,levels:=S.levels.take q }):=by
      obtain⟨J,h,K⟩:=ace.o v _ f Y;exact⟨J,Ux.o.trans h,K⟩
     go_wp2_with fail;go_meet
     case rel=>exact x.o
   case rest=>
    clear r s t u hc0 T abm Dp ace Ux YJ;obtain⟨J,h,K⟩:=hcut;obtain⟨r,s,t,u⟩:=R.o J wc h;have Y1:=di (AB a k c J _ wc K h.dJ j aO ajF);have rQ:=di h;clear h K;go_wp2_with fail;refine Y1.o.mono ?_;rintro l w3 ⟨rfl,mM,Z,L⟩;have Wo:=rQ.o.trans Z;clear r s t u;obtain⟨r,s,t,u⟩:=R.o mM w3 Wo;obtain⟨a2,p2,m2,ys2,hc2,SH,aaQ⟩:=WN L Z.dJ j ajF d aO;have jB:=di SH;have ae6:=di aaQ;have hlt3:=L.lt;have abl:=L.fr 2;have qw:=di Wo;clear SH aaQ L Z Wo Y1 rQ;go_upto_region 10 with fail;go_cut [] (fun U=>kJ (w.alloc (.cells #[.int .i64 b,.int .i64 c,.int .i64 d] 133)) U own k a { syms:=S.syms.take b,terms:=S.terms.take c,held:=S.held.take d,levels:=S.levels.take q })
    case first=>
     go_region_with (go_at_call 180;refine(jB.o _ ah0).mono ?_;rintro l v ⟨V,X,rfl,Y,f⟩;have r1:=(f.cell (p:=⟨a,2,none⟩) hlt3).trans hc2;have r2:=(f.frozen (p:=⟨a,2,none⟩) hlt3).trans abl)
     all_goals
      have x:Hid (kJ (w.alloc (.cells #[.int .i64 b,.int .i64 c,.int .i64 d] 133)) (v.setCell ⟨a,2,none⟩ (.slice V m2 X)) own k a { syms:=S.syms.take b,terms:=S.terms.take c,held:=S.held.take d,levels:=S.levels.take q }):=by
       obtain⟨Vp,hf4,hS4⟩:=ae6.o v _ f Y;exact⟨Vp,qw.o.trans hf4,hS4⟩
      go_wp2_with fail;go_meet
      case rel=>exact x.o
    case rest=>
     have x:=di (kJ.lift m.o HB0.o hcut);clear hcut r s t u hc2 hlt3 abl;go_wp2_with fail;go_ret;exact⟨rfl,x.o⟩
 ·rw[if_neg p,decide_eq_false p];have hneg:(S.levels.length:Int)-(n:Int)<0:=aO;exact amu
end Go.Proofs.YtbichedkajfmiaaGreatDoor
