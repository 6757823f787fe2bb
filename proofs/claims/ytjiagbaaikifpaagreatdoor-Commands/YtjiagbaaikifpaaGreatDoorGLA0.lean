import Derived.Test.YtjiagbaaikifpaaGreatDoorGPC22
set_option maxRecDepth 100000
set_option maxHeartbeats 16000000
namespace Go.Proofs.YtjiagbaaikifpaaGreatDoor
open Go.RowKit Go.Proofs.Tryz
def al1:Doc.Str:=[40,100,101,99,108,97,114,101,45,102,117,110,32,120,32,40,41,32,73,110,116,41]
def al2:Doc.Str:=[40,97,115,115,101,114,116,32,40,62,61,32,53,32,120,41,41]
def al3:Doc.Str:=[40,100,101,99,108,97,114,101,45,102,117,110,32,120,32,40,41,32,73,110,116,41,10,40,97,115,115,101,114,116,32,40,60,61,32,120,32,53,41,41,10]
def al4:Bool:=match Doc.lK Doc.dO.empty al1 with
 | .error _=>false
 | .ok r=>match Doc.lK r.1 al2 with
  | .error _=>false
  | .ok q=>!r.2&&!q.2&&Doc.print q.1==al3
theorem abh:al4=true:=by decide +kernel
theorem XV:∃a S2:Doc.dO,KL Doc.dO.empty al1 0=(rep 0 0 0 0,a)/\KL a al2 0=(rep 0 0 0 0,S2)/\Doc.print S2=al3/\Doc.iq a/\Doc.iq S2:=by
 have h:=abh;unfold al4 at h;split at h
 ·cases h
 ·rename_i r b;split at h
  ·cases h
  ·rename_i q c;obtain⟨a,g⟩:=r;obtain⟨S2,i⟩:=q;simp only[Bool.and_eq_true,Bool.not_eq_true',beq_iff_eq]at h;obtain⟨⟨rfl,rfl⟩,e⟩:=h;have d:=Doc.JI Doc.iq.empty b;have f:=Doc.JI d c;refine⟨a,S2,?_,?_,e,d,f⟩
   ·unfold KL;rw[if_neg aR,b];rfl
   ·unfold KL;rw[if_neg aR,c];rfl
theorem XW (w:World)(k:gZ w) :
 dH 14 #[] w λe h=>e=dF (fu)/\dB w h:=by
 obtain⟨y,S2,H,I,J,K,L⟩:=XV;have hgs:=k.size;have X:=dn (Rz 2 (λ_=>0) w);have HG:=dn k
 have Y:Hid (∀W own,dB w W->dI W own 2 w.heap.size Doc.dO.empty->eD own W->(∀b,b<2->own b=0)->dH 19 #[dK w.heap.size 0,.string ⟨#[40,100,101,99,108,97,114,101,45,102,117,110,32,120,32,40,41,32,73,110,116,41]⟩,dw 0] W λe h=>∃n,Fr own n 2 W h/\e=dF (rep 0 0 0 0)/\dI h n 2 w.heap.size y):=λW own a o p z=>by
  have:=PW w.heap.size 2 own Doc.dO.empty al1 0 W o p aR Doc.iq.empty (k.fT (λb _ q=>a.block b q)) z aY;rw[H]at this;exact this
 have Z:Hid (∀W own,dB w W->dI W own 2 w.heap.size y->eD own W->(∀b,b<2->own b=0)->dH 19 #[dK w.heap.size 0,.string ⟨#[40,97,115,115,101,114,116,32,40,62,61,32,53,32,120,41,41]⟩,dw 0] W λe h=>∃n,Fr own n 2 W h/\e=dF (rep 0 0 0 0)/\dI h n 2 w.heap.size S2):=λW own a o p z=>by
  have:=PW w.heap.size 2 own y al2 0 W o p aR K (k.fT (λb _ q=>a.block b q)) z aY;rw[I]at this;exact this
 have HP:Hid (∀W own,dB w W->dI W own 2 w.heap.size S2->eD own W->dH 20 #[dK w.heap.size 0] W λe h=>e=dF (.string ⟨#[40,100,101,99,108,97,114,101,45,102,117,110,32,120,32,40,41,32,73,110,116,41,10,40,97,115,115,101,114,116,32,40,60,61,32,120,32,53,41,41,10]⟩)/\dB W h):=λW own a o p=>by
  have:=G5 w.heap.size 2 own S2 W o p aR L (k.fT (λb _ q=>a.block b q));rw[J]at this;exact this
 clear k H I J K L;go_enter func14,ntmps14;go_wp2_with fail;refine X.o.mono ?_;rintro e M ⟨rfl,A,N,O⟩;have i:=dn A;have nS:=dn N
 have uS:Hid (eD (dG (λ_=>0) w.heap.size 2) M):=λb a=>by
  unfold dG;rw[if_neg aR]
 have lH:=dn (Y.o M (dG (λ_=>0) w.heap.size 2) A O uS.o (λb a=>by unfold dG;rw[if_neg aR]));clear A O N;go_wp2_with fail;refine lH.o.mono ?_;rintro e c ⟨s,f,rfl,B⟩;simp only[rep]
 have P:dB w c:=⟨f.os.trans i.o.os,f.tape.trans i.o.tape,f.output.trans i.o.output,aQ f.size i.o.size,λb a=>by
  rw[f.block b (aP i.o.size) (by unfold dG;rw[if_neg aR];simp)];exact i.o.block b a⟩
 have Q:∀b,b<2->s b=0:=λb a=>by
  rw[f.ext b (aP i.o.size)];unfold dG;rw[if_neg aR]
 have hz2:w.heap.size<c.heap.size:=B.lt
 have R:∀b,b<w.heap.size->s b=0:=λb a=>by
  rw[f.ext b (aP i.o.size)];unfold dG;rw[if_neg aR]
 obtain⟨l,t⟩:∃l,c.alloc (.cells #[dw 0,dw 0,dw 0,dE,eB,dw 0] 40)=l:=⟨_,rfl⟩;have u:dB c l:=by rw[<-t];exact af.alloc ae _
 have S:l.dQ c.heap.size 0=some (dw 0):=by rw[<-t];simp
 have C:dB w l:=P.trans (u.mono aR);have jl:=dn (Z.o l s C (B.below u) (λb a=>f.fresh b (aP u.size)) Q);have ry:=dn f;have m:=dn C;have HQA:=dn S;have zo:=dn R;have HWA:=dn t;clear f B Q u P C R t S;go_wp2_with fail;rw[HWA.o];refine jl.o.mono ?_;rintro e g ⟨pI,j,rfl,T⟩;simp only[rep];have D:g.dQ c.heap.size 0=some (dw 0):=j.cell (p:=dA c.heap.size 0) HQA.o (by show s c.heap.size≠_;rw[ry.o.fresh _ ae];omega)
 have U:dB w g:=⟨j.os.trans m.o.os,j.tape.trans m.o.tape,j.output.trans m.o.output,aQ j.size m.o.size,λb a=>by
  rw[j.block b (aP m.o.size) (by rw[zo.o b a];omega)];exact m.o.block b a⟩
 have hz3:c.heap.size<g.heap.size:=aj D;obtain⟨d,v⟩:∃d,g.alloc (.cells #[dw 0,dw 0,dw 0,dE,eB,dw 0] 40)=d:=⟨_,rfl⟩;have r:dB g d:=by rw[<-v];exact af.alloc ae _
 have E:d.dQ g.heap.size 0=some (dw 0):=by rw[<-v];simp
 have V:d.dQ c.heap.size 0=some (dw 0):=r.dL D hz3;have F:dB w d:=U.trans (r.mono aR);have oQ:=dn (HP.o d pI F (T.below r) (λb a=>j.fresh b (aP r.size)));have hzB:g.heap.size<d.heap.size:=aj E;have HQB:=dn E;have HQC:=dn V;have HWB:=dn v;have nG:=dn F;clear j T r U F v E V D;go_wp2_with fail;rw[HWB.o];refine oQ.o.dX λG x=>?_;have r1:G.dQ c.heap.size 0=some (dw 0):=x.dL HQC.o (by show c.heap.size<d.heap.size;omega);have r2:G.dQ g.heap.size 0=some (dw 0):=x.dL HQB.o (by show g.heap.size<d.heap.size;omega);have iP:Hid (dB w G):=nG.o.dW x;clear x;go_wp2;go_ret;exact⟨rfl,iP.o⟩
