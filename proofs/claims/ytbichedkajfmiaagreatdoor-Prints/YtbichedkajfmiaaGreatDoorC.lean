import Derived.Test.YtbichedkajfmiaaGreatDoorB
import Derived.BigQuiet
import Derived.Deep.DeepCutAuto
import Derived.Deep.QuietTactic
import Derived.Deep.RegionHeld3
import Derived.Deep.RegionLawGrows
import Derived.Deep.RegionWith
namespace Go.Proofs.YtbichedkajfmiaaGreatDoor
theorem akP {p:Prop}(h:p:=by
 go_wp2_with fail;refine HCM.o.mono ?_;intro q K e;obtain⟨A,b,rfl⟩:=e.two;have f:=gF.lift z.o.dJ Z.o e;have c:=f.fb Ca.o Ce.o;have E:=c.c0;have F:=c.c1;have df:=c.fr;obtain⟨wy,yP,y0,y1,l,m⟩:=dL E F (.int .i64 (A:Int)) (.int .i64 (b:Int));have g:=f.dU z.o W aO l m;have d:=g.fb P.o Q.o;have r:=d.c0;have s:=d.c1;have cf:=d.fr;obtain⟨wz,hwz,t,u,h,i⟩:=dL r s (.int .i64 (A:Int)) (.int .i64 (b:Int));have v:=di (g.dU G.o ae aO h i).drew;clear e f c l m g d h i;go_upto_region 22 with fail
 go_region
 all_goals
  go_wp2_with fail;exact bodyPost_ret (v:=.tuple #[.bool false,.agg #[.int .i64 (A:Int),.int .i64 (b:Int)]]) bU rfl aiY):p:=h
theorem ak3 {p:Prop}(h:p:=by
 go_wp2_with fail;go_region
 all_goals
  have q3:=C.o.op;simp only[Nat.zero_add]at q3;have N:=di M.o;have O:=di Fs.o;have P:=di (Oa.o f [l,k] _ _ K.o Fv.o aP Fs.o B.o);have Q:=C.o.print;have T:=C.o.op;have U:=B.o;clear U;go_wp2_with fail;refine P.o.mono ?_;rintro e V ⟨rfl,c⟩;have o:=(B.o).trans (c.mono (B.o).size);have X:=(C.o.below c).op;have Y:=di (wL.o ⟨Doc.written S.terms f.print [l,k],f.op,y,0,[l,k]⟩ _ V (O.o.below c) o);generalize Doc.written S.terms f.print [l,k]=bg at *;clear c o Q T;unfold dO;simp only[Nat.zero_add]at X;go_wp2_with fail;refine Y.o.mono ?_;rintro e w4 d;obtain⟨pa,pb,rfl⟩:=d.two;have Z:=di d;clear d;go_wp2_with fail;go_ret2;rw[N.o];exact Z.o):p:=h
theorem ak4 {p:Prop}(h:p:=by go_enter Tryz.func247,Tryz.ntmps247;go_wp2_with (first|(go_at_call 257;refine k.o.mono ?_;rintro e g ⟨rfl,rfl⟩)|(go_at_call 256;refine(d.o 1 _ _).mono ?_;rintro e f ⟨rfl,rfl⟩));go_ret;exact⟨kP aie,h.o⟩):p:=h
theorem ak8 {p:Prop}(h:p:=by
 go_wp2_with fail;go_quiet (fail);go_wp2_with fail
 first
  | (go_ret
     exact⟨⟨_,rfl⟩,mo.o _⟩)
  | (go_roundw
     case rel=>exact o.o _
     case measure=>simp[intOf];omega)):p:=h
theorem ale {p:Prop}(h:p:=by go_wp2_with fail;go_quiet (fail);go_wp2_with fail;go_ret2;rw[e.o];exact o.o _ _ _ (below_drewN L.o _)):p:=h
theorem alm {p:Prop}(h:p:=by
 by_cases hx0:x.length=0
 ·have hx0':x=[]:=List.length_eq_zero_iff.1 hx0;subst hx0';go_wp2_with fail;go_meet
  case rel=>exact⟨⟨false,rfl,aP⟩,rfl⟩
 ·have hx1:0<x.length:=aO;have hx2:(0:Int)<(x.length:Int):=aO;clear hx0;go_wp2_with fail;go_meet
  case rel=>exact⟨⟨_,rfl,fun _=>hx1⟩,rfl⟩):p:=h
theorem alr {p:Prop}(h:p:=by go_enter Tryz.func258,Tryz.ntmps258;go_wp2_with fail;go_quiet (fail);go_wp2_with fail;go_ret;exact⟨fB (by rw[e.o];rfl),h.o _⟩):p:=h
theorem alz {p:Prop}(h:p:=by go_wp2_with (go_quiet (fail));go_ret;exact⟨⟨_,rfl⟩,below_drewN a.o _⟩):p:=h
theorem alA {p:Prop}(h:p:=by go_enter Tryz.func247,Tryz.ntmps247;go_wp2_with (first|(go_at_call 257;refine r.o.mono ?_;rintro e g ⟨rfl,rfl⟩)|(go_at_call 256;refine(d.o 1 _ _).mono ?_;rintro e f ⟨rfl,rfl⟩));go_ret;exact⟨kP aie,h.o⟩):p:=h
theorem alB {p:Prop}(h:p:=by go_enter Tryz.func247,Tryz.ntmps247;go_wp2_with (first|(go_at_call 257;refine q.o.mono ?_;rintro e g ⟨rfl,rfl⟩)|(go_at_call 256;refine(d.o 1 _ _).mono ?_;rintro e f ⟨rfl,rfl⟩));go_ret;exact⟨kP aie,h.o⟩):p:=h
theorem alF {p:Prop}(h:p:=by
 go_enter Tryz.func247,Tryz.ntmps247;go_wp2_with fail;go_quiet (first|(go_at_call 256;refine Calls.quiet_of_same (d.o 1 _ _)))
 all_goals
  go_wp2_with fail;go_ret;exact⟨rfl,y.o _⟩):p:=h
theorem alN {p:Prop}(h:p:=by
 go_wp2_with fail;go_meet
 case rel=>exact⟨⟨_,rfl⟩,rfl⟩):p:=h
theorem alV {p:Prop}(h:p:=by
 go_wp2_with fail;go_meet
 case rel=>exact⟨rfl,⟨aP,aP,aP,aP,aP⟩,ag,aP⟩):p:=h
theorem alX {p:Prop}(h:p:=by
 have hx1:=Dm.o rfl;have hx2:(0:Int)<(x.length:Int):=aO;go_wp2_with fail;go_meet
 case rel=>exact⟨⟨_,rfl,by simp;try omega⟩,rfl⟩):p:=h
theorem al5 {p:Prop}(h:p:=by generalize dn.dec c=f at *;generalize dn.dec d=l at *;go_wp2_with (go_quiet (fail));go_ret;exact⟨⟨_,rfl⟩,below_drewN b.o _⟩):p:=h
theorem amb {p:Prop}(h:p:=by
 go_wp2_with (go_quiet (fail));go_roundw
 case rel=>exact⟨_,j+1,rfl,bJ,aO,below_drewN u.o _⟩
 case measure=>exact akL):p:=h
theorem amj {p:Prop}(h:p:=by go_enter Tryz.func150,Tryz.ntmps150;go_wp2_with (go_quiet (fail));go_ret2;exact⟨.no,below_drewN HB1.o _⟩):p:=h
theorem amm {p:Prop}(h:p:=by go_wp2_with fail;go_quiet (fail);go_wp2_with fail;go_ret2;rw[e.o];exact o.o _ _ _ (below_drewN O.o.drew _)):p:=h
theorem amr {p:Prop}(h:p:=by go_wp2_with fail;go_quiet (fail);go_wp2_with fail;go_ret2;rw[e.o];exact o.o _ _ _ (below_drewN rF.o _)):p:=h
theorem amv {p:Prop}(h:p:=by
 go_wp2_with fail;go_meet
 case rel=>exact⟨rfl,HE.o⟩):p:=h
theorem amP {p:Prop}(h:p:=by
 go_wp2_with fail;go_meet
 case rel=>exact⟨rfl,⟨aP,aP,aP,aP,by simp[C]⟩,ag,aP⟩):p:=h
end Go.Proofs.YtbichedkajfmiaaGreatDoor
