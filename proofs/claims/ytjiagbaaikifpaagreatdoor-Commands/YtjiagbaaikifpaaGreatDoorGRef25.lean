import Derived.Test.YtjiagbaaikifpaaGreatDoorGRef23
set_option maxRecDepth 100000
set_option maxHeartbeats 16000000
namespace Go.Proofs.YtjiagbaaikifpaaGreatDoor
open Go.RowKit Go.Proofs.Tryz
theorem Zp (a k:Nat)(own:Own)(S:Doc.dO)(p:Nat)(e:List Doc.Tr)(c:Tc)(w:World)(G:ed w own k a S)(hfr:eD own w)(hk:k≠0)(hw:Doc.iq S)(H:jy w (λI=>own I=0) 13 c (.list p e))(h0:0<e.length)(hwd:Doc.fE e<=800) :
 dH 140 #[dK a 0,.agg #[dD c.x,.bool c.bb,.slice c.ao c.m c.cap,dw c.p]] w λl w'=>lI w w' own k a S (Doc.push S p e) l:=by
 have hR:=gU;obtain⟨i0,hi,hz0,hz1,hz2⟩:=info_parts UI;have hcp:c.p=p:=by obtain⟨_,_,hc,_⟩:=H.kids;rw[hc]
 have J:dB w (w.alloc (.cells #[dD c.x,.bool c.bb,.slice c.ao c.m c.cap,dw c.p] 138)):=ai;have HB0:=dn J;have K:=dn G;have M:=dn hfr;have K6:=dn (He (λI=>own I=0) p e c _ (H.below J) h0 hwd);have HP:Hid (Doc.push S p e=match Doc.count p e with|.error x=>.error x|.ok n=>if S.levels.length+n>4 then .error (9,p) else .ok { S with levels:=S.levels++List.replicate n (S.syms.length,S.terms.length,S.held.length) }):=rfl;have xG:=dn (λx=>Doc.KM (p:=p) (ks:=e) (x:=x));have rY:=dn (λn=>Doc.count_le (p:=p) (ks:=e) (n:=n));have hnl:=hw.ve;generalize Doc.push S p e=R at *;generalize Doc.count p e=RC at *;obtain⟨x,bb,ao,v,cap,N⟩:=c;simp only at hcp HB0 K6;subst hcp;simp only;clear J H hwd;go_enter func140,ntmps140;go_wp2_with fail;refine K6.o.mono ?_;rintro l O ⟨rfl,P⟩;have Q:=HB0.o.trans (P.mono aW);have m:=dn Q;have b3:=(P.cell (p:=dA w.heap.size 3) aW).trans (show _=some (dw N) by simp);obtain⟨aS,cS,aT,cT,aH,cH,g,h,y,z,A,o,g0,g0',g1,g1',g2,g2',T,g3'⟩:=(G.below Q).fields;clear P Q G hfr;cases RC with
 | error U=>
  have hy:=xG.o U rfl;have u:Hid (R=.error U):=HP.o;have hen:((U.1:Int) !=0)=true:=by rw[hy];rfl
  clear hy;unfold yY;go_wp2;go_ret2;rw[u.o];exact⟨own,Fr.of_below k M.o m.o,rfl,K.o.below m.o⟩
 | ok n=>
  have hn5:=rY.o n rfl;have HR1:Hid (R=if S.levels.length+n>4 then .error (9,N) else .ok { S with levels:=S.levels++List.replicate n (S.syms.length,S.terms.length,S.held.length) }):=HP.o;unfold yY
  by_cases h4:S.levels.length+n>4
  ·have u:Hid (R=.error (9,N)):=by show _=_;rw[HR1.o,if_pos h4]
   go_wp2_with fail;go_quiet (fail);go_wp2;go_ret2;rw[u.o];exact(lI.err (Fr.of_below k M.o m.o) (K.o.below m.o)).below (below_drewN af _)
  ·have u:Hid (R=.ok { S with levels:=S.levels++List.replicate n (S.syms.length,S.terms.length,S.held.length) }):=by show _=_;rw[HR1.o,if_neg h4]
   clear y z A;go_wp2_with fail
   go_loopw [6] (fun V wr=>∃(r q:Nat) (i:Own),V=dw r/\r+q=n/\Fr own i k w wr/\ed wr i k a { S with levels:=S.levels++List.replicate q (S.syms.length,S.terms.length,S.held.length) }) (fun V _=>(intOf V).toNat)
   ·exact⟨n,0,own,rfl,aR,Fr.of_below k M.o m.o,by simpa using K.o.below m.o⟩
   case round=>
    obtain⟨r,q,i,rfl,W,hf,d⟩:=hrel;have HRQ:=dn W;have X:=dn hf;have B:=dn d;have hqb:q<=5:=aR;have hr5:r<=5:=aR;have zq:Hid (∀C:Nat,0<C->∃v,C=v+1):=λC D=>⟨C-1,aR⟩;obtain⟨aS,cS,aT,cT,aH,cH,g,h,y,z,A,o,g0,g0',g1,g1',g2,g2',T,g3'⟩:=d.fields;simp only at y z A o g0 g1 g2 T;simp only[List.length_append,List.length_replicate]at o T;obtain⟨vL,s,Y⟩:=d.levels;have WW:vL=.slice g (S.levels.length+q) h:=by rw[o]at s;injection s with s;exact s.symm
    subst WW;have vC:=d.fr 3;have hlt:=d.lt
    have hne:(Value.slice g (S.levels.length+q) h).ownBlock≠some a:=by
     intro D;obtain⟨_,_,c1,hc1⟩:=Y.type a D;obtain⟨c2,hc2⟩:=d.obj;exact iH hc1 hc2 aY rfl
    have Z:=dn hne;have HL2:=dn Y;have I8:=dn s;obtain⟨E,x1,x2,x3,x4⟩:=Y;simp only[List.length_append,List.length_replicate]at x1;have uE:=dn x1;have HX:=dn (show iw (DN wr i) E (S.levels++List.replicate q (S.syms.length,S.terms.length,S.held.length))/\(∀x∈E,x.length=3) from⟨x2,x3⟩);clear x1 x2 x3 x4 hne s W hf d
    by_cases hr0:0<r
    ·have mh:Hid (∀(f:World) (b:Own) (j:Nat) (t:Nat),ky wr f i b k a 3 (.slice g (S.levels.length+q) h) (dJ j (S.levels.length+q+1) t)->f.ownsRow 0 173 3 (dJ j (S.levels.length+q+1) t) (S.levels.length+q+1) (E.flatten++pz S.syms.length S.terms.length S.held.length)->b j=k->Fr own b k w f/\ed f b k a { S with levels:=S.levels++List.replicate (q+1) (S.syms.length,S.terms.length,S.held.length) }):=λf b j t d hown uk=>by
      refine⟨X.o.trans d.fr,?_⟩
      have hrow:eU f b k 173 3 (DN f b) (dJ j ((S.levels++List.replicate q (S.syms.length,S.terms.length,S.held.length)).length+1) t) ((S.levels++List.replicate q (S.syms.length,S.terms.length,S.held.length))++[(S.syms.length,S.terms.length,S.held.length)]):=by
       refine eU.snoc (w:=wr) (C:=DN wr i) (v:=.slice g (S.levels.length+q) h) ⟨?_,HX.o.1,HX.o.2⟩ ?_ (λc bg D=>D) rfl rfl uk
       ·simpa using uE.o
       ·simpa[pz] using hown
      have:=B.o.qm (w2:=f) (own':=b) I8.o d hk (by simpa using hrow);rw[List.replicate_succ',<-List.append_assoc];simpa using this
     obtain⟨SS,hSS⟩:∃SS:Doc.dO,SS={ S with levels:=S.levels++List.replicate (q+1) (S.syms.length,S.terms.length,S.held.length) }:=⟨_,rfl⟩;rw[<-hSS]at mh;have Dn:=dn hSS;clear hSS;generalize S.levels.length=L at *;generalize S.syms.length=n0 at *;generalize S.terms.length=n1 at *;generalize S.held.length=n2 at *;have HR0:=dn (zq.o r hr0);go_upto_region 7 with fail
     go_cut [] (fun wx=>∃b,Fr own b k w wx/\ed wx b k a SS)
     case first=>
      go_region_law (refine jC rfl (.tmp 35) (.tmp 54) 81 rfl 0 173 i0 (.agg #[dw 0,dw 0,dw 0]) 3 24 underlying81 hi hz0 hz1 hz2 rfl aY (.slice g (L+q) h) (L+q) E.flatten cO amO (dA wr.heap.size 0) 1 (pz n0 n1 n2) cO rfl (by exact ZY _ _ _ _ _) (aey _ _ _) bz aR aW ?_;intro j t O hown' F hg1 hg2;have q1:O.cell? (dA a 3)=some (.slice g (L+q) h):=((eY F (a:=dA a 3) aX (fun l=>Z.o l.symm)).trans (dV _ _ (dA a 3) aX)).trans o;have q2:O.frozen? (dA a 3)=false:=((fo F (a:=dA a 3) aX (fun l=>Z.o l.symm)).trans (eF _ _ (dA a 3) aX)).trans vC)
      all_goals
       have hap:=dn (qF (n:=L+q+1) HL2.o X.o.fresh B.o.mine B.o.lt Z.o (ai.drew) I8.o hown' F hg2);clear hown' F hg1 hg2;go_wp2;go_meet
       case rel=>
        obtain⟨d,ho,_⟩:=hap.o;exact⟨_,mh.o _ _ j t d ho amQ⟩
     case rest=>
      obtain⟨b,hA,hB⟩:=hcut;have HA:=dn hA;have HB:=dn hB;rw[Dn.o]at HB;clear hA hB y z A o vC;go_wp2;go_roundw
      case rel=>
       obtain⟨v,hm⟩:=HR0.o;have W:=HRQ.o;exact⟨r-1,q+1,b,bL,aR,HA.o,HB.o⟩
      case measure=>
       obtain⟨v,hm⟩:=HR0.o;exact aph
    ·have hq:q=n:=aP HRQ.o;have HRF:Hid (R=.ok { S with levels:=S.levels++List.replicate q (S.syms.length,S.terms.length,S.held.length) }):=by show _=_;rw[hq];exact u.o
     clear hq;go_wp2;go_ret2;rw[HRF.o];exact⟨i,X.o,rfl,B.o⟩
