import Derived.Deep.RegionLawGrows
import Derived.Test.YtbichedkajfmiaaGreatDoorGLW13
import Derived.Test.YtbichedkajfmiaaGreatDoorC
set_option maxRecDepth 100000
set_option maxHeartbeats 16000000
namespace Go.Proofs.YtbichedkajfmiaaGreatDoor
open Go.RowKit
def pQ (sy:Int)(ot:Bool)(av:Value)(va:List UInt8):List Value:=[.int .i64 sy,.bool ot,av,.string ⟨va.toArray⟩]
theorem Tf (w:World)(a:Int)(b:Bool)(c:Option Addr)(m d:Nat)(e:List UInt8)(f:TypeId)(n:Nat)(g:n=w.heap.size):∀j u,(pQ a b (.slice c m d) e)[j]?=some u->((w.alloc (.cells #[.int .i64 a,.bool b,.slice c m d,.string ⟨e.toArray⟩] f)).drew).cell? ((⟨n,0,none⟩:Addr).add j)=some u:=by
 subst g;exact fun j u h=>qa w (pQ a b (.slice c m d) e) f j u h
theorem ZZ (b:Int)(c:Bool)(d:Option Addr)(m e:Nat)(f:List UInt8):∀u∈pQ b c (.slice d m e) f,u.oneCell'=true:=by
 intro u a;simp only[pQ,List.mem_cons,List.not_mem_nil,or_false]at a;rcases a with rfl|rfl|rfl|rfl<;>rfl
def agv (w w':World)(own:Own)(e:Ending):Prop:=∃(ac:Option Addr) (nc cc:Nat) (ws:List (List UInt8)),e=.returned (.slice ac nc cc)/\ws.length=nc/\jX w' own 0 (.slice ac ws.length cc) ws/\ws.length<=70001/\(∀y∈ws,y.length<=70000)/\Below w.heap.size w w'
theorem Z8 (w:World)(own:Own)(a:List UInt8)(g:dH own w)(o:a.length<=70000):Calls Tryz.prog 90 #[.string ⟨a.toArray⟩] w fun e b=>agv w b own e:=by
 cases a with
 | nil=>
  refine(VM w).mono ?_;rintro e b ⟨rfl,rfl⟩;exact⟨none,0,0,[],rfl,rfl,⟨World.ownsRow_nil _ _ _ _,fun c d=>by simp[Value.ownBlock]at d⟩,aP,aP,af⟩
 | cons h a=>
  refine(VN (h::a) w aO aP).mono ?_;rintro e b ⟨⟨v,i,rfl,f,p,j,q⟩,d⟩;obtain⟨k,l,rfl,_,_,_⟩:=dQ f;exact⟨k,_,l,i,rfl,rfl,⟨GL f,fun c m=>g c (f.lt c m).1⟩,aO,fun y n=>by have:=j y n;omega,d⟩
theorem aaF (a:Nat)(own:Own)(M:jv)(e m C:Int)(v b:List UInt8)(D:Nat)(w:World)(x:eT w own a M)(Q:dH own w)(R:gD D M)(hn:D+1<=100000)(ho:pX ⟨8,e,m,C,v,b⟩) :
 Calls Tryz.prog 39 #[.pointer (some ⟨a,0,none⟩),.agg #[.int .i64 8,.int .i64 e,.int .i64 m,.int .i64 C,.string ⟨v.toArray⟩,.string ⟨b.toArray⟩]] w fun o w'=>o=.returned (.bool true)/\ic w w' own a (D+1):=by
 obtain⟨⟨S,T⟩,⟨mR,qd⟩,⟨xg,xe⟩,U,hot⟩:=id ho;simp only at S T mR qd xg xe U hot;obtain⟨c,h⟩:∃c,w.alloc (.cells #[.int .i64 8,.int .i64 e,.int .i64 m,.int .i64 C,.string ⟨v.toArray⟩,.string ⟨b.toArray⟩] 33)=c:=⟨_,rfl⟩;have y:Below w.heap.size w c:=by rw[<-h];exact af.alloc ae _
 have hsz1:=y.size;have l:=x.up y;have V:=Q.up y;have pM:=l.lt;have xQ:=x.lt;have W:=di y;have f0:c.cell? ⟨w.heap.size,0,none⟩=some (.int .i64 8):=ai4;have f1:c.cell? ⟨w.heap.size,1,none⟩=some (.int .i64 e):=ai4;have f2:c.cell? ⟨w.heap.size,2,none⟩=some (.int .i64 m):=ai4;have f3:c.cell? ⟨w.heap.size,3,none⟩=some (.int .i64 C):=ai4;have f4:c.cell? ⟨w.heap.size,4,none⟩=some (.string ⟨v.toArray⟩):=ai4;have f5:c.cell? ⟨w.heap.size,5,none⟩=some (.string ⟨b.toArray⟩):=ai4;obtain⟨i0,hi,hz0,hz1,hz2⟩:=info_parts Tryz.G5;obtain⟨v2,z,r⟩:=l.reg;obtain⟨p,i,rfl,p1,p2⟩:=r.form;have hlr:=R.reg;have Y6:=di Q;have yt:=di (Z8 c own v V U);have HH:=di l;have Ux:=di V;have mq:=di R;have HA2:=di z;have E:w.heap.size<c.heap.size:=ai4;obtain⟨N,X⟩:=aJ M.reg.length;have f:=di X;rw[X]at hlr p1;clear x Q R ho l V y r z X;go_enter Tryz.func39,Tryz.ntmps39;go_wp2_with fail;refine yt.o.mono ?_;rintro o g ⟨F,G,H,I,rfl,hnc,hst,hwl,yP,j⟩;have A:=HH.o.up j;have hF2:=Ux.o.up j;have e2:g.cell? ⟨a,2,none⟩=some (.slice p N i):=by rw[<-f.o];exact(j.cell (p:=⟨a,2,none⟩) pM).trans HA2.o
 obtain⟨v2,z,r⟩:=A.reg;obtain rfl:v2=.slice p M.reg.length i:=Option.some.inj (z.symm.trans (by rw[f.o];exact e2));have z2:=A.fr 2;have g1:=(j.cell (p:=⟨w.heap.size,1,none⟩) E).trans f1;have g2:=(j.cell (p:=⟨w.heap.size,2,none⟩) E).trans f2;have g5:=(j.cell (p:=⟨w.heap.size,5,none⟩) E).trans f5;have hs2:=j.size;have Y:a<g.heap.size:=aO;have hlt3:w.heap.size<g.heap.size:=aO;obtain⟨Z,x1,x2,x3,x4⟩:=id r;have rq:Hid (g.ownsRow 0 142 4 (.slice p N i) N Z.flatten):=by rw[<-f.o];exact x1
 have H9:=di (show _/\_/\_ from⟨x1,x2,x3⟩)
 have kZ:Hid (∀q,(Value.slice p N i).ownBlock=some q->q≠a):=fun q hq hc=>by
  have l:=x4 q (by rw[f.o];exact hq);rw[hc,A.mine]at l;exact aO
 have afu:Hid (∀q,(Value.slice p N i).ownBlock=some q->q≠w.heap.size):=fun q hq hc=>by
  have l:=x4 q (by rw[f.o];exact hq);rw[hc,Y6.o _ ae]at l;exact aO
 have kH:=di r;have LX:=di A;have rQ:=di hF2;have HB2:=di j;have J:=di hst;have rJ:=di hwl;have HWY:=di yP;have HNC:=di hnc;have HE2:=di e2;have HZ2:=di z2;clear j hst hwl yP hnc A hF2 x1 x2 x3 x4 r z f0 f1 f2 f3 f4 f5 h
 have LZ:Hid (∀(d n:Nat) (k K:World),Below g.heap.size g K->k.ownsRow 0 142 4 (.slice (some ⟨d,0,none⟩) (N+1) n) (N+1) (Z.flatten++pQ e (m.tmod 2 !=0) (.slice F G H) b)->K.grownBy k (Value.slice p N i).ownBlock->((Value.slice p N i).ownBlock=some d\/K.heap.size<=d)->ic w (k.setCell ⟨a,2,none⟩ (.slice (some ⟨d,0,none⟩) (N+1) n)) own a (D+1)):=fun d n k K hbx L s O=>by
  have t:=tJ (f:=2) (r:=7) (n:=N+1) kH.o rQ.o LX.o.mine aO Y hbx HE2.o L (by rw[f.o];exact s) (by rw[f.o];exact O);obtain⟨u,Yp⟩:=aJ ((m.tmod 2 !=0));rw[Yp]at t;refine⟨_,mq.o.ab4 (e:=⟨e,u,I,b⟩) hn ⟨rJ.o,by show b.length<=_;omega,fun bn hy=>by have:=HWY.o bn hy;omega,⟨S,T⟩⟩,(gJ.JO t.1 aO (LX.o.aaG t.1 ?_)).from (W.o.trans (HB2.o.mono W.o.size))⟩
  have h9:=dN.snoc (w:=g) (C:=AZ g own) (D:=AZ (k.setCell ⟨a,2,none⟩ (.slice (some ⟨d,0,none⟩) (N+1) n)) (dw own d 7)) (k:=7) (own':=dw own d 7) (a:=(⟨e,u,I,b⟩:fU)) (c:=pQ e u (.slice F G H) b) (g:=d) (cap:=n) H9.o (by rw[f.o];exact t.2) (fun bq bA x=>FL g _ own _ (fun B P h0=>by
   obtain⟨q1,q2⟩:=t.1.keep B P aO;exact⟨q1,by rw[q2,h0]⟩) bq bA x) ⟨F,H,by rw[show(⟨e,u,I,b⟩:fU).args.length=G from HNC.o];rfl,J.o.keep (fun B P=>t.1.keep B (J.o.1.lt B P).2 (by rw[J.o.2 B P];omega))⟩ rfl aiv
  rw[f.o]at h9;exact h9
 have hN1:N+1<=1000000:=aO;clear kH LX rQ HB2 J rJ HWY HNC H9 afu Y6 yt HH Ux mq HA2 f W hlr E hs2 hsz1 pM hn U hot S T mR qd xg xe p1 p2 xQ;clear I;go_upto_region 7 with fail
 go_region_law (refine iH rfl (.tmp 25) (.tmp 36) 38 rfl 0 142 i0 (.agg #[.int .i64 0,.bool false,.slice none 0 0,.string ⟨#[]⟩]) 4 56 Tryz.underlying38 hi hz0 hz1 hz2 rfl aR (.slice p N i) N Z.flatten bZ aiK ⟨g.heap.size,0,none⟩ 1 (pQ e (m.tmod 2 !=0) (.slice F G H) b) bZ rfl (by exact Tf _ _ _ _ _ _ _ _ _ aP) (ZZ _ _ _ _ _ _) aX aO aP ?_;intro d n k L s hg1 O;have y1:k.cell? ⟨a,2,none⟩=some (.slice p N i):=((dP s (a:=⟨a,2,none⟩) aQ (fun o=>kZ.o a o.symm rfl)).trans (dC _ _ ⟨a,2,none⟩ Y)).trans HE2.o;have y2:k.frozen? ⟨a,2,none⟩=false:=((dS s (a:=⟨a,2,none⟩) aQ (fun o=>kZ.o a o.symm rfl)).trans (dI _ _ ⟨a,2,none⟩ Y)).trans HZ2.o;have iQ:=di (LZ.o d n k _ (ag.drew) L s O);clear L s hg1 O)
 all_goals
  go_wp2_with fail;go_ret;exact⟨rfl,iQ.o⟩
end Go.Proofs.YtbichedkajfmiaaGreatDoor
