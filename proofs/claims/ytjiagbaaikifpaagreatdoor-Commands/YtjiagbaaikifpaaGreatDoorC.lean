import Derived.Test.YtjiagbaaikifpaaGreatDoorB
import Derived.BigQuiet
import Derived.Deep.DeepCutAuto
import Derived.Deep.QuietTactic
import Derived.Deep.RegionHeld3
import Derived.Deep.RegionLawGrows
import Derived.Deep.RegionWith
namespace Go.Proofs.YtjiagbaaikifpaaGreatDoor
variable {p:Prop}
theorem apk(h:p:=by
 go_wp2_with fail;refine HCM.o.mono ?_;intro F J e;obtain⟨z,b,rfl⟩:=e.two;have f:=iL.lift y.o.eH Z.o e;have c:=f.fb Ex.o Ey.o;have D:=c.c0;have E:=c.c1;have df:=c.fr;obtain⟨wy,yO,y0,y1,l,m⟩:=eP D E (dw (z:Int)) (dw (b:Int));have g:=f.fw y.o V aR l m;have d:=g.fb O.o P.o;have q:=d.c0;have r:=d.c1;have cf:=d.fr;obtain⟨wz,hwz,s,t,h,i⟩:=eP q r (dw (z:Int)) (dw (b:Int));have u:=dn (g.fw G.o ae aR h i).drew;clear e f c l m g d h i;go_upto_region 22 with fail
 go_region
 all_goals
  go_wp2;exact dR (dM #[dP,.agg #[dw (z:Int),dw (b:Int)]]) cu rfl am3):p:=h
theorem apv(h:p:=by
 go_wp2_with fail;go_region
 all_goals
  have q3:=C.o.op;simp only[Nat.zero_add]at q3;have N:=dn M.o;have O:=dn I4.o;have P:=dn (IV.o f [l,k] _ _ K.o I6.o aW I4.o B.o);have Q:=C.o.print;have T:=C.o.op;have U:=B.o;clear U;go_wp2_with fail;refine P.o.dX λV c=>?_;have o:=(B.o).trans (c.mono (B.o).size);have X:=(C.o.below c).op;have Y:=dn (uT.o ⟨Doc.written S.terms f.print [l,k],f.op,y,0,[l,k]⟩ _ V (O.o.below c) o);generalize Doc.written S.terms f.print [l,k]=bg at *;clear c o Q T;unfold eO;simp only[Nat.zero_add]at X;go_wp2_with fail;refine Y.o.mono ?_;rintro e w4 d;obtain⟨pa,pb,rfl⟩:=d.two;have Z:=dn d;clear d;go_wp2;go_ret2;rw[N.o];exact Z.o):p:=h
theorem apy(h:p:=by go_enter func272,ntmps272;go_wp2_with (first|(go_at_call 288;refine k.o.mono ?_;rintro e g ⟨rfl,rfl⟩)|(go_at_call 287;refine(d.o 1 _ _).mono ?_;rintro e f ⟨rfl,rfl⟩));go_ret;exact⟨mF amj,h.o⟩):p:=h
theorem apD(h:p:=by
 go_wp2_with fail;go_quiet (fail);go_wp2_with fail
 first
  | (go_ret
     exact⟨⟨_,rfl⟩,jG.o _⟩)
  | (go_roundw
     ·exact o.o _
     ·simp[intOf];omega)):p:=h
theorem apF(h:p:=by have Yt:=dn m;have HZ5:=dn z5;clear z1 z2 z3 z4 z5 c m;go_wp2_with fail;refine mq.o.mono ?_;rintro g w3 J;obtain⟨L,bn,rfl⟩:=J.two;have HP:=dn J;obtain⟨pI,q1,_⟩:=J;have hcp:w3.dQ w.heap.size 3=some (dw p):=q1.cell (p:=dA w.heap.size 3) Z (by rw[HZ5.o];omega);clear q1;go_wp2_with fail;go_quiet (fail);go_wp2;go_ret3;rw[Yt.o];exact(iZ.term HZ1.o La.o HP.o mP.o).below (below_drewN af _)):p:=h
theorem apK(h:p:=by go_wp2_with fail;go_quiet (fail);go_wp2;go_ret2;rw[e.o];exact o.o _ _ _ (below_drewN L.o _)):p:=h
theorem apR(h:p:=by
 by_cases hx0:x.length=0
 ·have hx0':x=[]:=List.length_eq_zero_iff.1 hx0;subst hx0';go_wp2;go_meet
  ·exact⟨⟨false,rfl,aW⟩,rfl⟩
 ·have hx1:0<x.length:=aR;have hx2:(0:Int)<(x.length:Int):=aR;clear hx0;go_wp2;go_meet
  ·exact⟨⟨_,rfl,λ_=>hx1⟩,rfl⟩):p:=h
theorem apT(h:p:=by go_wp2_with (go_quiet (fail));go_ret;exact⟨⟨_,rfl⟩,below_drewN c.o _⟩):p:=h
theorem apU(h:p:=by go_enter func289,ntmps289;go_wp2_with fail;go_quiet (fail);go_wp2;go_ret;exact⟨fM (by rw[e.o];rfl),h.o _⟩):p:=h
theorem apV(h:p:=by go_enter func272,ntmps272;go_wp2_with (first|(go_at_call 288;refine r.o.mono ?_;rintro e g ⟨rfl,rfl⟩)|(go_at_call 287;refine(d.o 1 _ _).mono ?_;rintro e f ⟨rfl,rfl⟩));go_ret;exact⟨mF amj,h.o⟩):p:=h
theorem apW(h:p:=by go_enter func272,ntmps272;go_wp2_with (first|(go_at_call 288;refine q.o.mono ?_;rintro e g ⟨rfl,rfl⟩)|(go_at_call 287;refine(d.o 1 _ _).mono ?_;rintro e f ⟨rfl,rfl⟩));go_ret;exact⟨mF amj,h.o⟩):p:=h
theorem ap2(h:p:=by have e0:=Doc.Bv a c;generalize (a==c)=Y at *;generalize dC.dec a=D at *;generalize dC.dec c=E at *;go_wp2_with (go_quiet (fail));go_ret;exact⟨dS (by rw[e.o,f.o]),below_drewN g.o _⟩):p:=h
theorem ap6(h:p:=by go_enter func192,ntmps192;go_wp2_with fail;go_quiet (fail);go_wp2;go_ret3;rw[M.o];exact(iV.err (Fr.of_below k nV.o Q.o) (HS.o.below Q.o) aR).below (below_drewN af _)):p:=h
theorem aqa(h:p:=by
 go_enter func272,ntmps272;go_wp2_with fail;go_quiet (first|(go_at_call 287;refine Calls.quiet_of_same (d.o 1 _ _)))
 all_goals
  go_wp2;go_ret;exact⟨rfl,y.o _⟩):p:=h
theorem aqv(h:p:=by
 have hx1:=wR.o rfl;have hx2:(0:Int)<(x.length:Int):=aR;go_wp2;go_meet
 ·exact⟨⟨_,rfl,by simp;try omega⟩,rfl⟩):p:=h
theorem aqA(h:p:=by
 go_wp2;go_meet
 ·exact⟨rfl,⟨aW,aW,aW,aW,aW⟩,ai,aW⟩):p:=h
theorem aqG(h:p:=by go_enter func154,ntmps154;go_wp2_with (go_quiet (fail));go_ret;exact⟨dS o.o.symm,below_drewN U.o _⟩):p:=h
theorem aqH(h:p:=by
 go_wp2_with (go_quiet (fail));go_roundw
 ·exact⟨_,j+1,rfl,bL,aR,below_drewN B.o _,M.o⟩
 ·exact aph):p:=h
theorem aqJ(h:p:=by go_enter func152,ntmps152;go_wp2_with (go_quiet (fail));go_ret2;exact⟨.no,below_drewN HB1.o _⟩):p:=h
theorem aqO(h:p:=by go_wp2_with fail;go_quiet (fail);go_wp2;go_ret2;rw[e.o];exact o.o _ _ _ (below_drewN O.o.drew _)):p:=h
theorem aqW(h:p:=by go_wp2_with fail;go_quiet (fail);go_wp2;go_ret2;rw[e.o];exact o.o _ _ _ (below_drewN BI.o _)):p:=h
theorem aq8(h:p:=by go_wp2_with fail;go_quiet (fail);go_wp2;go_ret3;exact⟨anc,below_drewN g.o _⟩):p:=h
end Go.Proofs.YtjiagbaaikifpaaGreatDoor
