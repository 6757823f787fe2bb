import Derived.Test.YtbichedkajfmiaaGreatDoorGPV2
import Derived.Test.YtbichedkajfmiaaGreatDoorC
set_option maxRecDepth 100000
set_option maxHeartbeats 16000000
namespace Go.Proofs.YtbichedkajfmiaaGreatDoor
open Go.RowKit
def al1:Doc.Str:=[40,100,101,99,108,97,114,101,45,102,117,110,32,120,32,40,41,32,73,110,116,41]
def al2:Doc.Str:=[40,97,115,115,101,114,116,32,40,62,61,32,53,32,120,41,41]
def al3:Doc.Str:=[40,100,101,99,108,97,114,101,45,102,117,110,32,120,32,40,41,32,73,110,116,41,10,40,97,115,115,101,114,116,32,40,60,61,32,120,32,53,41,41,10]
def al4:Bool:=match Doc.jV Doc.dB.empty al1 with
 | .error _=>false
 | .ok r=>match Doc.jV r.1 al2 with
  | .error _=>false
  | .ok q=>!r.2&&!q.2&&Doc.print q.1==al3
theorem Xe:al4=true:=akt
theorem TH:∃a S2:Doc.dB,Hm Doc.dB.empty al1 0=(rep 0 0 0 0,a)/\Hm a al2 0=(rep 0 0 0 0,S2)/\Doc.print S2=al3/\Doc.fQ a/\Doc.fQ S2:=by
 have h:=Xe;unfold al4 at h;split at h
 ·cases h
 ·rename_i r b;split at h
  ·cases h
  ·rename_i q c;obtain⟨a,g⟩:=r;obtain⟨S2,i⟩:=q;simp only[Bool.and_eq_true,Bool.not_eq_true',beq_iff_eq]at h;obtain⟨⟨rfl,rfl⟩,e⟩:=h;have d:=Doc.F4 Doc.fQ.empty b;have f:=Doc.F4 d c;refine⟨a,S2,?_,?_,e,d,f⟩
   ·unfold Hm;rw[if_neg aO,b];rfl
   ·unfold Hm;rw[if_neg aO,c];rfl
theorem BF (w:World)(k:eU w) :
 Calls Tryz.prog 13 #[] w fun e h=>e=.returned (.bool true)/\Below w.heap.size w h:=by
 obtain⟨y,S2,H,I,J,K,L⟩:=TH;have hgs:=k.size;have Y:=di (NY 2 (fun _=>0) w);have HG:=di k
 have Z:Hid (∀W own,Below w.heap.size w W->dA W own 2 w.heap.size Doc.dB.empty->dH own W->(∀b,b<2->own b=0)->Calls Tryz.prog 18 #[.pointer (some ⟨w.heap.size,0,none⟩),.string ⟨#[40,100,101,99,108,97,114,101,45,102,117,110,32,120,32,40,41,32,73,110,116,41]⟩,.int .i64 0] W fun e h=>∃n,Fr own n 2 W h/\e=.returned (rep 0 0 0 0)/\dA h n 2 w.heap.size y):=fun W own a o p z=>by
  have:=Mf w.heap.size 2 own Doc.dB.empty al1 0 W o p aO Doc.fQ.empty (k.ed (fun b _ q=>a.block b q)) z aR;rw[H]at this;exact this
 have HD2:Hid (∀W own,Below w.heap.size w W->dA W own 2 w.heap.size y->dH own W->(∀b,b<2->own b=0)->Calls Tryz.prog 18 #[.pointer (some ⟨w.heap.size,0,none⟩),.string ⟨#[40,97,115,115,101,114,116,32,40,62,61,32,53,32,120,41,41]⟩,.int .i64 0] W fun e h=>∃n,Fr own n 2 W h/\e=.returned (rep 0 0 0 0)/\dA h n 2 w.heap.size S2):=fun W own a o p z=>by
  have:=Mf w.heap.size 2 own y al2 0 W o p aO K (k.ed (fun b _ q=>a.block b q)) z aR;rw[I]at this;exact this
 have HP:Hid (∀W own,Below w.heap.size w W->dA W own 2 w.heap.size S2->dH own W->Calls Tryz.prog 19 #[.pointer (some ⟨w.heap.size,0,none⟩)] W fun e h=>e=.returned (.string ⟨#[40,100,101,99,108,97,114,101,45,102,117,110,32,120,32,40,41,32,73,110,116,41,10,40,97,115,115,101,114,116,32,40,60,61,32,120,32,53,41,41,10]⟩)/\Below W.heap.size W h):=fun W own a o p=>by
  have:=Eh w.heap.size 2 own S2 W o p aO L (k.ed (fun b _ q=>a.block b q));rw[J]at this;exact this
 clear k H I J K L;go_enter Tryz.func13,Tryz.ntmps13;go_wp2_with fail;refine Y.o.mono ?_;rintro e M ⟨rfl,A,N,O⟩;have i:=di A;have kG:=di N
 have wK:Hid (dH (dw (fun _=>0) w.heap.size 2) M):=fun b a=>by
  unfold dw;rw[if_neg aO]
 have kv:=di (Z.o M (dw (fun _=>0) w.heap.size 2) A O wK.o (fun b a=>by unfold dw;rw[if_neg aO]));clear A O N;go_wp2_with fail;refine kv.o.mono ?_;rintro e c ⟨s,g,rfl,B⟩;simp only[rep]
 have P:Below w.heap.size w c:=⟨g.os.trans i.o.os,g.tape.trans i.o.tape,g.output.trans i.o.output,by have:=g.size;have:=i.o.size;omega,fun b a=>by
  rw[g.block b akE (by unfold dw;rw[if_neg aO];simp)];exact i.o.block b a⟩
 have Q:∀b,b<2->s b=0:=fun b a=>by
  rw[g.ext b akE];unfold dw;rw[if_neg aO]
 have hz2:w.heap.size<c.heap.size:=B.lt
 have R:∀b,b<w.heap.size->s b=0:=fun b a=>by
  rw[g.ext b akE];unfold dw;rw[if_neg aO]
 obtain⟨l,t⟩:∃l,c.alloc (.cells #[.int .i64 0,.int .i64 0,.int .i64 0,.slice none 0 0,.string ⟨#[]⟩,.int .i64 0] 40)=l:=⟨_,rfl⟩;have u:Below c.heap.size c l:=by rw[<-t];exact af.alloc ae _
 have S:l.cell? ⟨c.heap.size,0,none⟩=some (.int .i64 0):=by rw[<-t];simp
 have C:Below w.heap.size w l:=P.trans (u.mono aO);have jB:=di (HD2.o l s C (B.below u) (fun b a=>g.fresh b (by have:=u.size;omega)) Q);have rQ:=di g;have m:=di C;have HQA:=di S;have Oe:=di R;have HWA:=di t;clear g B Q u P C R t S;go_wp2_with fail;rw[HWA.o];refine jB.o.mono ?_;rintro e d ⟨mM,j,rfl,T⟩;simp only[rep];have D:d.cell? ⟨c.heap.size,0,none⟩=some (.int .i64 0):=j.cell (p:=⟨c.heap.size,0,none⟩) HQA.o (by show s c.heap.size≠_;rw[rQ.o.fresh _ ae];omega)
 have U:Below w.heap.size w d:=⟨j.os.trans m.o.os,j.tape.trans m.o.tape,j.output.trans m.o.output,by have:=j.size;have:=m.o.size;omega,fun b a=>by
  rw[j.block b (by have:=m.o.size;omega) (by rw[Oe.o b a];omega)];exact m.o.block b a⟩
 have hz3:c.heap.size<d.heap.size:=ai D;obtain⟨f,v⟩:∃f,d.alloc (.cells #[.int .i64 0,.int .i64 0,.int .i64 0,.slice none 0 0,.string ⟨#[]⟩,.int .i64 0] 40)=f:=⟨_,rfl⟩;have r:Below d.heap.size d f:=by rw[<-v];exact af.alloc ae _
 have E:f.cell? ⟨d.heap.size,0,none⟩=some (.int .i64 0):=by rw[<-v];simp
 have V:f.cell? ⟨c.heap.size,0,none⟩=some (.int .i64 0):=(r.cell (p:=⟨c.heap.size,0,none⟩) hz3).trans D;have F:Below w.heap.size w f:=U.trans (r.mono aO);have mi:=di (HP.o f mM F (T.below r) (fun b a=>j.fresh b (by have:=r.size;omega)));have hzB:d.heap.size<f.heap.size:=ai E;have HQB:=di E;have HQC:=di V;have HWB:=di v;have X:=di F;clear j T r U F v E V D;go_wp2_with fail;rw[HWB.o];refine mi.o.mono ?_;rintro e G ⟨rfl,x⟩;have r1:G.cell? ⟨c.heap.size,0,none⟩=some (.int .i64 0):=(x.cell (p:=⟨c.heap.size,0,none⟩) (by show c.heap.size<f.heap.size;omega)).trans HQC.o;have r2:G.cell? ⟨d.heap.size,0,none⟩=some (.int .i64 0):=(x.cell (p:=⟨d.heap.size,0,none⟩) (by show d.heap.size<f.heap.size;omega)).trans HQB.o;have iQ:Hid (Below w.heap.size w G):=X.o.trans (x.mono X.o.size);clear x;go_wp2_with fail;go_ret;exact⟨rfl,iQ.o⟩
end Go.Proofs.YtbichedkajfmiaaGreatDoor
