import Derived.Test.YtbichedkajfmiaaGreatDoorGRef23
import Derived.Test.YtbichedkajfmiaaGreatDoorC
set_option maxRecDepth 100000
set_option maxHeartbeats 16000000
namespace Go.Proofs.YtbichedkajfmiaaGreatDoor
open Go.RowKit
theorem Vf (a k:Nat)(own:Own)(S:Doc.dB)(p:Nat)(e:List Doc.Tr)(c:Tc)(w:World)(G:dE w own k a S)(hfr:dH own w)(hk:k≠0)(hw:Doc.fQ S)(H:ik w (fun I=>own I=0) 13 c (.list p e))(h0:0<e.length)(hwd:Doc.eu e<=800) :
 Calls Tryz.prog 138 #[.pointer (some ⟨a,0,none⟩),.agg #[.string ⟨c.x.toArray⟩,.bool c.bb,.slice c.ao c.m c.cap,.int .i64 c.p]] w fun l w'=>jy w w' own k a S (Doc.push S p e) l:=by
 have hR:=fJ;obtain⟨i0,hi,hz0,hz1,hz2⟩:=info_parts Tryz.Sv;have hcp:c.p=p:=by obtain⟨_,_,hc,_⟩:=H.kids;rw[hc]
 have J:Below w.heap.size w (w.alloc (.cells #[.string ⟨c.x.toArray⟩,.bool c.bb,.slice c.ao c.m c.cap,.int .i64 c.p] 138)):=ag;have HB0:=di J;have K:=di G;have M:=di hfr;have Ie:=di (Ep (fun I=>own I=0) p e c _ (H.below J) h0 hwd);have HP:Hid (Doc.push S p e=match Doc.count p e with|.error x=>.error x|.ok n=>if S.levels.length+n>4 then .error (9,p) else .ok { S with levels:=S.levels++List.replicate n (S.syms.length,S.terms.length,S.held.length) }):=rfl;have uf:=di (fun x=>Doc.Ho (p:=p) (ks:=e) (x:=x));have uL:=di (fun n=>Doc.count_le (p:=p) (ks:=e) (n:=n));have hnl:=hw.rY;generalize Doc.push S p e=R at *;generalize Doc.count p e=RC at *;obtain⟨x,bb,ao,v,cap,N⟩:=c;simp only at hcp HB0 Ie;subst hcp;simp only;clear J H hwd;go_enter Tryz.func138,Tryz.ntmps138;go_wp2_with fail;refine Ie.o.mono ?_;rintro l O ⟨rfl,P⟩;have Q:=HB0.o.trans (P.mono aP);have m:=di Q;have b3:=(P.cell (p:=⟨w.heap.size,3,none⟩) aP).trans (show _=some (.int .i64 N) by simp);obtain⟨aS,cS,aT,cT,aH,cH,g,h,y,z,A,o,g0,g0',g1,g1',g2,g2',T,g3'⟩:=(G.below Q).fields;clear P Q G hfr;cases RC with
 | error U=>
  have hy:=uf.o U rfl;have u:Hid (R=.error U):=HP.o;have hen:((U.1:Int) !=0)=true:=by rw[hy];rfl
  clear hy;unfold wB;go_wp2_with fail;go_ret2;rw[u.o];exact⟨own,Fr.of_below k M.o m.o,rfl,K.o.below m.o⟩
 | ok n=>
  have hn5:=uL.o n rfl;have HR1:Hid (R=if S.levels.length+n>4 then .error (9,N) else .ok { S with levels:=S.levels++List.replicate n (S.syms.length,S.terms.length,S.held.length) }):=HP.o;unfold wB
  by_cases h4:S.levels.length+n>4
  ·have u:Hid (R=.error (9,N)):=by show _=_;rw[HR1.o,if_pos h4]
   go_wp2_with fail;go_quiet (fail);go_wp2_with fail;go_ret2;rw[u.o];exact(jy.err (Fr.of_below k M.o m.o) (K.o.below m.o)).below (below_drewN af _)
  ·have u:Hid (R=.ok { S with levels:=S.levels++List.replicate n (S.syms.length,S.terms.length,S.held.length) }):=by show _=_;rw[HR1.o,if_neg h4]
   clear y z A;go_wp2_with fail
   go_loopw [6] (fun V wr=>∃(r q:Nat) (i:Own),V=.int .i64 r/\r+q=n/\Fr own i k w wr/\dE wr i k a { S with levels:=S.levels++List.replicate q (S.syms.length,S.terms.length,S.held.length) }) (fun V _=>(intOf V).toNat)
   case atStart=>exact⟨n,0,own,rfl,aO,Fr.of_below k M.o m.o,by simpa using K.o.below m.o⟩
   case round=>
    obtain⟨r,q,i,rfl,W,hf,d⟩:=hrel;have HRQ:=di W;have X:=di hf;have B:=di d;have hqb:q<=5:=aO;have hr5:r<=5:=aO;have LP:Hid (∀C:Nat,0<C->∃v,C=v+1):=fun C D=>⟨C-1,aO⟩;obtain⟨aS,cS,aT,cT,aH,cH,g,h,y,z,A,o,g0,g0',g1,g1',g2,g2',T,g3'⟩:=d.fields;simp only at y z A o g0 g1 g2 T;simp only[List.length_append,List.length_replicate]at o T;obtain⟨vL,s,Y⟩:=d.levels;have Sz:vL=.slice g (S.levels.length+q) h:=by rw[o]at s;injection s with s;exact s.symm
    subst Sz;have su:=d.fr 3;have hlt:=d.lt
    have hne:(Value.slice g (S.levels.length+q) h).ownBlock≠some a:=by
     intro D;obtain⟨_,_,c1,hc1⟩:=Y.type a D;obtain⟨c2,hc2⟩:=d.obj;exact gp hc1 hc2 aR rfl
    have Z:=di hne;have HL2:=di Y;have Ut:=di s;obtain⟨E,x1,x2,x3,x4⟩:=Y;simp only[List.length_append,List.length_replicate]at x1;have rq:=di x1;have HX:=di (show fO (Bd wr i) E (S.levels++List.replicate q (S.syms.length,S.terms.length,S.held.length))/\(∀x∈E,x.length=3) from⟨x2,x3⟩);clear x1 x2 x3 x4 hne s W hf d
    by_cases hr0:0<r
    ·have kH:Hid (∀(f:World) (b:Own) (j:Nat) (t:Nat),jg wr f i b k a 3 (.slice g (S.levels.length+q) h) (.slice (some ⟨j,0,none⟩) (S.levels.length+q+1) t)->f.ownsRow 0 172 3 (.slice (some ⟨j,0,none⟩) (S.levels.length+q+1) t) (S.levels.length+q+1) (E.flatten++mG S.syms.length S.terms.length S.held.length)->b j=k->Fr own b k w f/\dE f b k a { S with levels:=S.levels++List.replicate (q+1) (S.syms.length,S.terms.length,S.held.length) }):=fun f b j t d hown qK=>by
      refine⟨X.o.trans d.fr,?_⟩
      have hrow:dN f b k 172 3 (Bd f b) (.slice (some ⟨j,0,none⟩) ((S.levels++List.replicate q (S.syms.length,S.terms.length,S.held.length)).length+1) t) ((S.levels++List.replicate q (S.syms.length,S.terms.length,S.held.length))++[(S.syms.length,S.terms.length,S.held.length)]):=by
       refine dN.snoc (w:=wr) (C:=Bd wr i) (v:=.slice g (S.levels.length+q) h) ⟨?_,HX.o.1,HX.o.2⟩ ?_ (fun c bg D=>D) rfl rfl qK
       ·simpa using rq.o
       ·simpa[mG] using hown
      have:=B.o.nI (w2:=f) (own':=b) Ut.o d hk (by simpa using hrow);rw[List.replicate_succ',<-List.append_assoc];simpa using this
     obtain⟨SS,hSS⟩:∃SS:Doc.dB,SS={ S with levels:=S.levels++List.replicate (q+1) (S.syms.length,S.terms.length,S.held.length) }:=⟨_,rfl⟩;rw[<-hSS]at kH;have AJ:=di hSS;clear hSS;generalize S.levels.length=L at *;generalize S.syms.length=n0 at *;generalize S.terms.length=n1 at *;generalize S.held.length=n2 at *;have HR0:=di (LP.o r hr0);go_upto_region 7 with fail
     go_cut [] (fun wx=>∃b,Fr own b k w wx/\dE wx b k a SS)
     case first=>
      go_region_law (refine iH rfl (.tmp 35) (.tmp 54) 81 rfl 0 172 i0 (.agg #[.int .i64 0,.int .i64 0,.int .i64 0]) 3 24 Tryz.underlying81 hi hz0 hz1 hz2 rfl aR (.slice g (L+q) h) (L+q) E.flatten bZ aiK ⟨wr.heap.size,0,none⟩ 1 (mG n0 n1 n2) bZ rfl (by exact VF _ _ _ _ _) (aaJ _ _ _) aX aO aP ?_;intro j t O hown' F hg1 hg2;have q1:O.cell? ⟨a,3,none⟩=some (.slice g (L+q) h):=((dP F (a:=⟨a,3,none⟩) aQ (fun l=>Z.o l.symm)).trans (dC _ _ ⟨a,3,none⟩ aQ)).trans o;have q2:O.frozen? ⟨a,3,none⟩=false:=((dS F (a:=⟨a,3,none⟩) aQ (fun l=>Z.o l.symm)).trans (dI _ _ ⟨a,3,none⟩ aQ)).trans su)
      all_goals
       have hap:=di (nS (n:=L+q+1) HL2.o X.o.fresh B.o.mine B.o.lt Z.o (ag.drew) Ut.o hown' F hg2);clear hown' F hg1 hg2;go_wp2_with fail;go_meet
       case rel=>
        obtain⟨d,ho,_⟩:=hap.o;exact⟨_,kH.o _ _ j t d ho aiN⟩
     case rest=>
      obtain⟨b,hA,hB⟩:=hcut;have HA:=di hA;have HB:=di hB;rw[AJ.o]at HB;clear hA hB y z A o su;go_wp2_with fail;go_roundw
      case rel=>
       obtain⟨v,hm⟩:=HR0.o;have W:=HRQ.o;exact⟨r-1,q+1,b,bJ,aO,HA.o,HB.o⟩
      case measure=>
       obtain⟨v,hm⟩:=HR0.o;exact akL
    ·have hq:q=n:=by have:=HRQ.o;omega
     have HRF:Hid (R=.ok { S with levels:=S.levels++List.replicate q (S.syms.length,S.terms.length,S.held.length) }):=by show _=_;rw[hq];exact u.o
     clear hq;go_wp2_with fail;go_ret2;rw[HRF.o];exact⟨i,X.o,rfl,B.o⟩
end Go.Proofs.YtbichedkajfmiaaGreatDoor
