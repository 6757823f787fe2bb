import Derived.Test.YtbichedkajfmiaaGreatDoorGEnv3
import Derived.Test.YtbichedkajfmiaaGreatDoorC
set_option maxRecDepth 100000
set_option maxHeartbeats 16000000
namespace Go.Proofs.YtbichedkajfmiaaGreatDoor
open Go.RowKit
variable {J:List Lit}{P:List Bool}{W u w:World}{h:Ending}{k m n:Nat}
theorem K3 (c g d:Nat)(h:Nat->Prop)(a:List dX)(held:List Nat)(i:List (List Lit))(j:List Lit)(k:List Bool)(b:Nat)(x:Bool)(e:Value)(f:List Bool)(w:World)(l:fT w c g a held i)
 (m:eH w d h j k) (n:iC w e f) (o:b<a.length) (p:iU a) (q:f.length=a[b].args.length) :
 Calls Tryz.prog 240 #[.pointer (some ⟨c,0,none⟩),.pointer (some ⟨d,0,none⟩),.int .i64 b,.bool x,e] w fun v y=>gL v/\Below w.heap.size w y:=by
 by_cases r:a[b].op=10
 ·exact Nc c g d h a held i j k b x e f w l m n o p r
 ·by_cases s:a[b].op=11
  ·exact Nb c g d h a held i j k b x e f w l m n o p s
  ·by_cases t:a[b].op=12
   ·exact KZ c g d h a held i j k b x e f w l m n o p q t
   ·by_cases u:a[b].op=8
    ·exact Nf c g d h a held i j k b x e f w l m n o p q u
    ·exact IM c g d h a held i j k b x e f w l m n o p q ⟨u,r,s,t⟩
theorem VO (E bb m:Nat)(u:Nat->Prop)(n:List dX)(held:List Nat)(cs:List (List Lit))(v:List Lit)(x:List Bool)(b:Nat)(w:World)(S:fT w E bb n held cs)
 (T:eH w m u v x) (U:b<n.length) (V:iU n) (hso:n[b].sort=1\/n[b].op=12) :
 Calls Tryz.prog 197 #[.pointer (some ⟨E,0,none⟩),.pointer (some ⟨m,0,none⟩),.int .i64 b] w fun h j=>gL h/\Below w.heap.size w j:=by
 obtain⟨bC,jZ,aA,lu,hlk⟩:=S.look U;have W:=V b U
 have af7:Hid (∀(X:Bool) (F:Value) (G:List Bool) (j:World),Below w.heap.size w j->iC j F G->G.length=n[b].args.length->Calls Tryz.prog 240 #[.pointer (some ⟨E,0,none⟩),.pointer (some ⟨m,0,none⟩),.int .i64 b,.bool X,F] j fun h w''=>gL h/\Below j.heap.size j w''):=
  fun X F G j hb hbs hl=>K3 E bb m u n held cs v x b X F G j (S.below hb) (T.below hb) hbs U V hl
 have Y:=di hlk.arg;obtain⟨r1,r2,r3,r4,r5,r6,r7,r8,r9,GG,Nr,_,_⟩:=hlk;have Z:=di T;generalize hT:n[b]=t at *;have pO:=W.few;have BR:=di hso;have H:=di W;clear S V hT T W hso;obtain⟨i0,hi,hz0,hz1,hz2⟩:=info_parts Tryz.DF;go_enter Tryz.func197,Tryz.ntmps197;go_upto_region 1 with fail
 go_cut [7] (fun bA wx=>bA=.pointer (some ⟨w.heap.size,0,none⟩)/\jc wx w.heap.size t (.slice aA t.args.length lu)/\Below w.heap.size w wx/\w.heap.size<wx.heap.size)
 case first=>
  exact alV
 case rest=>
  obtain⟨rfl,uu,hbel,z⟩:=hcut;have I:=di uu;clear r3 r4 r5 r6 r7 r8 r9 uu;go_wp2_with fail
  go_loopw [8,9] (fun bg i wr=>∃(k:Nat) (a:List Bool),i=.int .i64 k/\k<=t.args.length/\a.length=k/\wr.ownsRow wc.heap.size 4 1 bg k (a.map Value.bool)/\Below wc.heap.size wc wr) (fun _ i _=>t.args.length-(intOf i).toNat)
  case atStart=>exact⟨0,[],rfl,aO,rfl,World.ownsRow_nil _ _ _ _,af⟩
  case round=>
   obtain⟨k,a,rfl,hk,hbl,hown,p⟩:=hrel;have HOWN:=di hown;have y7:=di hbl;have b5:=(I.o.below p z).args;have c:=hbel.trans (p.mono hbel.size);clear hown hbl
   by_cases hlt:k<t.args.length
   ·obtain⟨J,hgA,K,cA⟩:=Y.o k hlt;subst hgA;have NM:=(c.cell (p:=⟨J,k,none⟩) K).trans cA;generalize t.args[k]=bn at *;go_wp2_with fail;refine(uT bn _).mono ?_;rintro h w1 ⟨rfl,d⟩;have A:=d.alloc d.size (.cells #[.bool false,.int .u8 84,.int .i64 bn,.int .i64 0] 168);have q:=Z.o.below (c.trans (A.mono c.size));go_wp2_with fail;refine(Be m u v x ⟨false,84,bn,0⟩ _ q).mono ?_;rintro h y ⟨⟨L,rfl⟩,hb2⟩;have r:Below wr.heap.size wr y:=A.trans (hb2.mono akn);have zM:=ownsRow_below HOWN.o r;have hbn:=p.trans (r.mono p.size);have hs2:=hbn.size;have hs0:=hbel.size;clear q;go_wp2_with (at_builtin;refine wpList_append_own _ rfl _ _ 255 rfl wc.heap.size 4 i0 (.bool false) 1 1 Tryz.underlying255 hi hz0 hz1 hz2 rfl aR _ _ _ rfl (zM.alloc _) ⟨y.heap.size,0,none⟩ 1 1 [.bool L] rfl rfl (cell_one_new _ _ _) bX aX aO aQ ?_;intro v' w3 hown' hgrow _);have Au:Below wc.heap.size wc w3:=(hbn.alloc hs2 _).grown hgrow aQ (by intro bB hq;exact(zM.lt bB hq).1);have XA:=di hown';clear hown' hgrow zM;go_wp2_with fail;go_roundw
    case rel=>exact⟨k+1,a++[L],bJ,aO,by have:=y7.o;simp;omega,by rw[GA];exact XA.o,Au⟩
    case measure=>exact akL
   ·have abB:a.length=t.args.length:=by have:=y7.o;omega
    have HBS:Hid (iC wr u8 a):=iC.dW (by have:=HOWN.o;rw[<-y7.o]at this;exact this);obtain⟨ab,cb,hv8,hcb,hmb,aaO⟩:=HBS.o.form;have Xq:=di aaO;have agd:=di abB;have agM:t.args.length<=a.length:=aO;subst hv8;have b2:=(I.o.below p z).sort;have b1:=(I.o.below p z).op;have HB2:=di b2;clear aaO abB
    by_cases M:t.sort=1
    ·have hsb:((t.sort:Int) !=1)=false:=by simp[M]
     clear M;go_wp2_with fail
     go_loopw [13,14,15] (fun bg o i wr3=>∃(s:Nat) (ab1 mR:Bool),bg=.bool ab1/\o=.bool mR/\i=.int .i64 s/\s<=a.length/\wr3=wr) (fun _ _ i _=>a.length-(intOf i).toNat)
     case atStart=>exact⟨0,true,false,rfl,rfl,rfl,aO,rfl⟩
     case round=>
      obtain⟨s,ab1,mR,rfl,rfl,rfl,hj,rfl⟩:=hrel
      by_cases hjlt:s<a.length
      ·obtain⟨e,l,N,O⟩:=Xq.o s hjlt;subst l;generalize a[s]=bA at *;cases ab1<;>cases mR
       all_goals
        go_wp2_with fail;go_roundw
        case rel=>exact⟨s+1,_,_,rfl,rfl,bJ,aO,trivial⟩
        case measure=>exact akL
      ·go_wp2_with fail;refine(uT b _).mono ?_;rintro h w1 ⟨rfl,d⟩;have A:=d.alloc d.size (.cells #[.bool false,.int .u8 84,.int .i64 b,.int .i64 0] 168);have q:=Z.o.below (c.trans (A.mono c.size));go_wp2_with fail;refine(Be m u v x ⟨false,84,b,0⟩ _ q).mono ?_;rintro h y ⟨⟨L,rfl⟩,hb2⟩;have r:=A.trans (hb2.mono akn);have f:=c.trans (r.mono c.size);have abC:=iC.below HBS.o r
       have B:Hid (∀i (hi:i<a.length),∃e,ab=some ⟨e,0,none⟩/\e<y.heap.size/\y.cell? ⟨e,i,none⟩=some (.bool a[i])):=by
        intro i hi;obtain⟨e,h1,h2,h3⟩:=Xq.o i hi;exact⟨e,h1,Nat.lt_of_lt_of_le h2 r.size,(r.cell (p:=⟨e,i,none⟩) h2).trans h3⟩
       have c1:=((I.o.below p z).below r (Nat.lt_of_lt_of_le z p.size)).op;have HB3:=di abC;clear q b1 b2 b5 abC
       by_cases o1:t.op=1
       ·have e1:((t.op:Int)==1)=true:=bz;clear o1;go_wp2_with fail;go_ret;exact⟨⟨_,rfl⟩,f⟩
       ·have e1:((t.op:Int)==1)=false:=aj aO;have O1:=di o1;clear o1
        by_cases o2:t.op=2
        ·have e2:((t.op:Int)==2)=true:=bz;clear o2;go_wp2_with fail;go_ret;exact⟨⟨_,rfl⟩,f⟩
        ·have e2:((t.op:Int)==2)=false:=aj aO;have O2:=di o2;clear o2
         by_cases P:t.op=3
         ·have e3:((t.op:Int)==3)=true:=bz;have C:=H.o.one (by simp[P]);have l0:0<a.length:=aO;obtain⟨e,l,N,O⟩:=B.o 0 aO;subst l;generalize a[0]=y0 at *;clear P C;go_wp2_with fail;go_ret;exact⟨⟨_,rfl⟩,f⟩
         ·have e3:((t.op:Int)==3)=false:=aj aO;have O3:=di P;clear P
          by_cases o4:t.op=4
          ·have e4:((t.op:Int)==4)=true:=bz;clear o4;go_wp2_with fail;go_ret;exact⟨⟨_,rfl⟩,f⟩
          ·have e4:((t.op:Int)==4)=false:=aj aO;have O4:=di o4;clear o4
           by_cases o5:t.op=5
           ·have e5:((t.op:Int)==5)=true:=bz;clear o5;go_wp2_with fail;go_ret;exact⟨⟨_,rfl⟩,f⟩
           ·have e5:((t.op:Int)==5)=false:=aj aO;have O5:=di o5;clear o5
            by_cases Q:t.op=6
            ·have e6:((t.op:Int)==6)=true:=bz;have C:=H.o.two (by simp[Q]);have l0:0<a.length:=aO;obtain⟨e,l,N,O⟩:=B.o 0 aO;subst l;have l1:1<a.length:=aO;obtain⟨gb',g,_,q1⟩:=B.o 1 aO;injection g with g
             injection g with g;subst g;generalize a[0]=y0 at *;generalize a[1]=y1 at *;clear Q C;go_wp2_with fail;go_quiet (fail);go_wp2_with fail;go_ret;exact⟨⟨_,rfl⟩,below_drewN f _⟩
            ·have e6:((t.op:Int)==6)=false:=aj aO;have O6:=di Q;clear Q
             by_cases R:t.op=7
             ·have e7:((t.op:Int)==7)=true:=bz;have C:=H.o.two (by simp[R]);have l0:0<a.length:=aO;obtain⟨e,l,N,O⟩:=B.o 0 aO;subst l;have l1:1<a.length:=aO;obtain⟨gb',g,_,q1⟩:=B.o 1 aO;injection g with g
              injection g with g;subst g;generalize a[0]=y0 at *;generalize a[1]=y1 at *;clear R C;cases y0
              all_goals
               go_wp2_with fail;go_ret;exact⟨⟨_,rfl⟩,f⟩
             ·have e7:((t.op:Int)==7)=false:=aj aO;have O7:=di R;clear R
              by_cases o13:t.op=13
              ·have e13:((t.op:Int)==13)=true:=bz;clear o13;go_wp2_with fail;go_ret;exact⟨⟨_,rfl⟩,f⟩
              ·have e13:((t.op:Int)==13)=false:=aj aO;have O13:=di o13;clear o13;have hcw:=af7.o L _ a y f HB3.o agd.o;go_wp2_with fail;refine hcw.mono ?_;rintro h w4 ⟨⟨yb,rfl⟩,hb4⟩;go_wp2_with fail;go_ret;exact⟨⟨_,rfl⟩,f.trans (hb4.mono f.size)⟩
    ·have hsb:((t.sort:Int) !=1)=true:=ajj;have h12:t.op=12:=by rcases BR.o with bq|bq;exact absurd bq M;exact bq
     have hl3:=H.o.three h12;obtain⟨J,hgA,K,c1⟩:=Y.o 1 aO;obtain⟨gA',D,_,c2⟩:=Y.o 2 aO;subst hgA;injection D with D
     injection D with D;subst D;obtain⟨e,l,N,O⟩:=Xq.o 0 aO;subst l;have c1':=(c.cell (p:=⟨J,1,none⟩) K).trans c1;have c2':=(c.cell (p:=⟨J,2,none⟩) K).trans c2;generalize t.args[1]=u1 at *;generalize t.args[2]=u2 at *;generalize a[0]=b0 at *;have q:=Z.o.below c;have l1:2<t.args.length:=aO;have l2:0<a.length:=aO;clear M h12 hl3;cases b0
     ·go_wp2_with fail;refine(xA m u v x b u2 _ q).mono ?_;exact amo
     ·go_wp2_with fail;refine(xA m u v x b u1 _ q).mono ?_;exact amo
theorem eH.new (w:World)(t:TypeId):eH (w.alloc (.cells #[.slice none 0 0,.slice none 0 0] t)) w.heap.size (fun _=>False) [] []:=
 ⟨.slice none 0 0,.slice none 0 0,aP,aP,ah6,World.ownsRow_nil _ _ _ _,World.ownsRow_nil _ _ _ _,by intro b a;simp[Value.ownBlock]at a,rfl,fun h=>h,fun _ _ h=>h,fun _ _ h=>h⟩
theorem M7 (o z:Nat)(j:List dX)(held:List Nat)(A:List (List Lit))(i:Nat)(L:Value)(M:List Lit)(w:World)(q:fT w o z j held A)(N:eP w L M)(B:i<j.length)(u:iU j) :
 Calls Tryz.prog 146 #[.pointer (some ⟨o,0,none⟩),.int .i64 i,L] w fun f g=>gL f/\Below w.heap.size w g:=by
 obtain⟨bn,jZ,O,P,hlk⟩:=q.look B;obtain⟨r1,r2,r3,r4,r5,r6,r7,r8,r9,GG,Nr,_,_⟩:=hlk;have HP:=di q;have rO:=di N;have Ia:=di u
 have aff:Hid (∀W e,Below w.heap.size w W->w.heap.size<=e->eH W e (fun _=>False) [] []->Calls Tryz.prog 195 #[.pointer (some ⟨o,0,none⟩),.pointer (some ⟨e,0,none⟩),.int .i64 i] W fun f g=>Fa g e (fun _=>False) 0 100 f/\Below e W g/\(∀Q,False->g.heap[Q]?=W.heap[Q]?)):=
  fun W e C he D=>ZE o z e (fun _=>False) j held A i w W q C he D (fun _ l=>l.elim) B u
 have adt:Hid (j[i].sort=1\/j[i].op=12->∀W e a c,Below w.heap.size w W->eH W e (fun _=>False) a c->Calls Tryz.prog 197 #[.pointer (some ⟨o,0,none⟩),.pointer (some ⟨e,0,none⟩),.int .i64 i] W fun f g=>gL f/\Below W.heap.size W g):=
  fun k W e a c C D=>VO o z e (fun _=>False) j held A a c i W (q.below C) D B u k
 generalize hT:j[i]=t at *;obtain⟨al,yc,rfl,Ct,uV,_⟩:=N;clear q u hT
 by_cases k:t.sort=1\/t.op=12
 ·go_enter Tryz.func146,Tryz.ntmps146;have HKP:=di (adt.o k);have R:Below w.heap.size w (w.alloc (.cells #[.string ⟨t.text.toArray⟩,.int .i64 t.op,.int .i64 t.sort,.int .i64 t.sym,.slice O t.args.length P] 176)):=ag
  have hkk:((t.sort:Int) !=1)=false\/(((t.sort:Int) !=1)=true/\((t.op:Int) !=12)=false):=by
   by_cases S:t.sort=1
   ·exact .inl (by simp[S])
   ·refine .inr ⟨ajj,?_⟩;rcases k with l|l
    ·exact absurd l S
    ·simp[l]
  clear k;rcases hkk with T|⟨T,k2⟩
  all_goals
   go_upto_region 4 with fail;have hcut:=R;have v:∃wc,wc=(w.alloc (.cells #[.string ⟨t.text.toArray⟩,.int .i64 t.op,.int .i64 t.sort,.int .i64 t.sym,.slice O t.args.length P] 176)):=⟨_,rfl⟩;obtain⟨wc,v⟩:=v;rw[<-v]at hcut ⊢;clear v R;have U:=eH.new wc 257;have V:=hcut.alloc hcut.size (.cells #[.slice none 0 0,.slice none 0 0] 257);have x:=hcut.size;have adA:=di U;clear r3 r4 r5 r6 r7 r8 r9 U;go_wp2_with fail;refine(aff.o _ wc.heap.size V x adA.o).mono ?_;rintro f w1 ⟨⟨rfl,a,c,X,hal⟩,hb3,_⟩;have hbt:=V.trans (hb3.mono x);have adz:=di X;clear X;go_wp2_with fail
   go_loopg [9] (2 ^ a.length-iF c) (fun gk bg wr=>∃(h:Bool) (c:List Bool),bg=.bool h/\eH wr wc.heap.size (fun _=>False) a c/\Below w.heap.size w wr/\gk=if h then 2 ^ a.length-iF c else 0)
   case atStart=>exact⟨true,c,rfl,adz.o,hbt,rfl⟩
   case round=>
    obtain⟨h,p,rfl,Y,y,Z⟩:=hrel;have HE2:=di Y;have uJ:=di Z;clear Y Z;cases h
    ·go_wp2_with fail;go_ret;exact⟨⟨_,rfl⟩,y⟩
    ·go_wp2_with fail;refine(HKP.o _ _ a p y HE2.o).mono ?_;rintro f w2 ⟨⟨kb,rfl⟩,hb4⟩;have E:=y.trans (hb4.mono y.size);have F:=HE2.o.below hb4;have hl3:=eP.below rO.o E;go_wp2_with fail;refine(G7 _ _ a p M _ _ F hl3).mono ?_;rintro f w3 ⟨⟨hbb,rfl⟩,hb5⟩;have G:=E.trans (hb5.mono E.size);have Za:=di (F.below hb5);clear F hl3;have jO:=di (JQ _ _ a p _ Za.o)
     have HR:Hid (∀(b:Bool) (d:List Bool) (g:World),eH g wc.heap.size (fun _=>False) a d->(b=true->iF d=iF p+1)->(if b then 2 ^ a.length-iF d else 0)<gk):=by
      intro b d g h1 h2;have hlt:=NN p;have hle:p.length=a.length:=by obtain⟨_,_,_,_,_,_,_,_,h7,_⟩:=Za.o;exact h7.symm
      rw[hle]at hlt;have hg:=uJ.o;simp only[if_true]at hg;cases b
      ·exact aQ
      ·have:=h2 rfl;simp only[if_true];exact aO
     cases kb
     ·go_wp2_with fail;refine jO.o.mono ?_;rintro f m ⟨⟨b,d,rfl,n,r⟩,H,_⟩;have s:=HR.o b d m n r;have I:Hid (∃(h:Bool) (c:List Bool),Value.bool b=.bool h/\eH m wc.heap.size (fun _=>False) a c/\Below w.heap.size w m/\(if b then 2 ^ a.length-iF d else 0)=if h then 2 ^ a.length-iF c else 0):=⟨b,d,rfl,n,G.trans (H.mono x),rfl⟩;have J:=di s;generalize (if b then 2 ^ a.length-iF d else 0)=K at *;clear n r s;go_wp2_with fail
      go_roundg K
      case measure=>exact J.o
      case rel=>exact I.o
     ·cases hbb
      ·go_wp2_with fail;go_ret;exact⟨⟨_,rfl⟩,G⟩
      ·go_wp2_with fail;refine jO.o.mono ?_;rintro f m ⟨⟨b,d,rfl,n,r⟩,H,_⟩;have s:=HR.o b d m n r;have I:Hid (∃(h:Bool) (c:List Bool),Value.bool b=.bool h/\eH m wc.heap.size (fun _=>False) a c/\Below w.heap.size w m/\(if b then 2 ^ a.length-iF d else 0)=if h then 2 ^ a.length-iF c else 0):=⟨b,d,rfl,n,G.trans (H.mono x),rfl⟩;have J:=di s;generalize (if b then 2 ^ a.length-iF d else 0)=K at *;clear n r s;go_wp2_with fail
       go_roundg K
       case measure=>exact J.o
       case rel=>exact I.o
 ·go_enter Tryz.func146,Tryz.ntmps146;have T:((t.sort:Int) !=1)=true:=by rw[bne_iff_ne];intro l;exact k (.inl aO)
  have k2:((t.op:Int) !=12)=true:=by rw[bne_iff_ne];intro l;exact k (.inr aO)
  clear k;go_wp2_with fail;go_ret;exact⟨⟨_,rfl⟩,ag⟩
theorem eG.block {o:Nat}{l:Lit}(h:eG w n o l)(a:W.heap[n]?=w.heap[n]?):eG W n o l:=
 ⟨(World.cell?_of_block (a:=⟨n,o,none⟩) a).trans h.neg,(World.cell?_of_block (a:=⟨n,o+1,none⟩) a).trans h.kind,(World.cell?_of_block (a:=⟨n,o+2,none⟩) a).trans h.a,(World.cell?_of_block (a:=⟨n,o+3,none⟩) a).trans h.b⟩
theorem eH.ac9 (h:eH w n (fun _=>False) [] [])(b:Nat->Prop)(d:w.cell? ⟨n,0,none⟩=some (.slice none 0 0))(e:w.cell? ⟨n,1,none⟩=some (.slice none 0 0))(f:¬b n):eH w n b [] []:=by
 obtain⟨i,j,_,_,g,_⟩:=h;exact⟨_,_,d,e,g,World.ownsRow_nil _ _ _ _,World.ownsRow_nil _ _ _ _,ajH,rfl,f,ajH,ajH⟩
theorem eH.forget {a:Nat->Prop}(h:eH w n a J P):eH w n (fun _=>False) J P:=by
 obtain⟨b,c,d,e,f,g,i,j,k,_⟩:=h;exact⟨b,c,d,e,f,g,i,j,k,fun h=>h,fun _ _ h=>h,fun _ _ h=>h⟩
theorem wE.fresh {b:Nat->Prop}{l:Lit}(d:wE w n b J P l h)(e:∀x∈J,jC x l=false):h=.returned (.tuple #[])/\eH w n b (J++[l]) (P++[false]):=by
 obtain⟨f,a⟩:=d;rcases a with ⟨_,x,g,c⟩|a
 ·rw[e x g]at c;cases c
 ·exact⟨f,a⟩
theorem Sk (pb a b:Nat)(Y:Value)(Z:List Lit)(w:World)(hls:eP w Y Z)(hab:a<b) :
 Calls Tryz.prog 147 #[.pointer (some ⟨pb,0,none⟩),.int .i64 a,.int .i64 b,Y] w fun e j=>gL e/\Below w.heap.size w j:=by
 have rO:=di hls;obtain⟨al,yc,rfl,Ct,uV,_⟩:=hls;have K:=(Below.refl w.heap.size w).alloc ae (.cells #[.slice none 0 0,.slice none 0 0] 257);have HE0:=di (eH.new w 257);obtain⟨W,o⟩:∃W,W=w.alloc (.cells #[.slice none 0 0,.slice none 0 0] 257):=⟨_,rfl⟩;have hc0:W.cell? ⟨w.heap.size,0,none⟩=some (.slice none 0 0):=by rw[o];simp
 have hc1:W.cell? ⟨w.heap.size,1,none⟩=some (.slice none 0 0):=by rw[o];simp
 have hWs:W.heap.size=w.heap.size+1:=by rw[o];simp
 have HM:Hid (∀x L:Nat,min x L=x\/L<=x):=fun x L=>aO;rw[<-o]at K HE0;go_enter Tryz.func147,Tryz.ntmps147;go_upto_region 2 with fail
 rw[<-o];clear o;have abF:w.heap.size<W.heap.size:=aO;have BQ:=di hWs;clear hWs;go_wp2_with fail;refine(uU a b _).mono ?_;rw[Nat.min_eq_left aO,Nat.max_eq_right aO];rintro e k ⟨rfl,y⟩;have hs1:=y.size;have M:=y.alloc y.size (.cells #[.bool false,.int .u8 69,.int .i64 a,.int .i64 b] 168);have kv:Hid (eG (k.alloc (.cells #[.bool false,.int .u8 69,.int .i64 a,.int .i64 b] 168)) k.heap.size 0 ⟨false,69,a,b⟩):=⟨aP,aP,aP,aP⟩;obtain⟨N,z⟩:∃N,N=k.alloc (.cells #[.bool false,.int .u8 69,.int .i64 a,.int .i64 b] 168):=⟨_,rfl⟩;have P9:k.heap.size<N.heap.size:=by rw[z];simp
 rw[<-z]at M kv;go_upto_region 3 with fail;rw[<-z];clear z;go_wp2_with fail;refine(ou a b _).mono ?_;rintro e l ⟨rfl,A⟩;have hs2:=A.size;have B:=A.alloc A.size (.cells #[.bool false,.int .u8 76,.int .i64 a,.int .i64 b] 168);have jB:Hid (eG (l.alloc (.cells #[.bool false,.int .u8 76,.int .i64 a,.int .i64 b] 168)) l.heap.size 0 ⟨false,76,a,b⟩):=⟨aP,aP,aP,aP⟩;obtain⟨O,C⟩:∃O,O=l.alloc (.cells #[.bool false,.int .u8 76,.int .i64 a,.int .i64 b] 168):=⟨_,rfl⟩;have aeI:l.heap.size<O.heap.size:=by rw[C];simp
 rw[<-C]at B jB;go_upto_region 4 with fail;rw[<-C];clear C;go_wp2_with fail;refine(ou b a _).mono ?_;rintro e p ⟨rfl,D⟩;have hs3:=D.size;have r:=D.alloc D.size (.cells #[.bool false,.int .u8 76,.int .i64 b,.int .i64 a] 168);have mi:Hid (eG (p.alloc (.cells #[.bool false,.int .u8 76,.int .i64 b,.int .i64 a] 168)) p.heap.size 0 ⟨false,76,b,a⟩):=⟨aP,aP,aP,aP⟩;obtain⟨m,E⟩:∃m,m=p.alloc (.cells #[.bool false,.int .u8 76,.int .i64 b,.int .i64 a] 168):=⟨_,rfl⟩;have ahx:p.heap.size<m.heap.size:=by rw[E];simp
 rw[<-E]at r mi;go_upto_region 5 with fail;rw[<-E];clear E;have t1:eG m k.heap.size 0 ⟨false,69,a,b⟩:=((kv.o.below B P9).below r aO);have F:eG m l.heap.size 0 ⟨false,76,a,b⟩:=jB.o.below r aeI;have G:=mi.o;have s:Below W.heap.size W m:=(M.trans (B.mono aO)).trans (r.mono aO);have hbw:Below w.heap.size w m:=K.trans (s.mono aO);have EB:eH m w.heap.size (fun h=>h=k.heap.size\/h=l.heap.size\/h=p.heap.size) [] []:=(HE0.o.below s).ac9 _ ((s.cell (p:=⟨w.heap.size,0,none⟩) abF).trans hc0) ((s.cell (p:=⟨w.heap.size,1,none⟩) abF).trans hc1) aO;have ady:=di EB;have T2:=di F;have T3:=di G;have mo:=di hbw;obtain⟨c1,c2,c3,c4⟩:=t1;simp only[Nat.zero_add]at c2 c3 c4;have ag5:w.heap.size<k.heap.size/\k.heap.size<l.heap.size/\l.heap.size<p.heap.size:=aO;clear F G EB hc0 hc1 K y A D M B r s hbw;go_wp2_with fail;refine(tV _ _ [] [] ⟨false,69,a,b⟩ _ ady.o aP (by intro h hc;omega)).mono ?_;rintro e w4 ⟨n,P,Q⟩;obtain⟨rfl,Yj⟩:=n.fresh aP;have adx:=di Yj;have F:=T2.o.block (Q _ (.inr (.inl rfl)));have HT3:=di (T3.o.block (Q _ (.inr (.inr rfl))));have hs4:=P.size;have uO:=di (mo.o.trans P);obtain⟨d1,d2,d3,d4⟩:=F;simp only[Nat.zero_add]at d2 d3 d4;clear n Yj P Q c1 c2 c3 c4;go_wp2_with fail;refine(tV _ _ _ _ ⟨false,76,a,b⟩ _ adx.o aP (by intro h hc;omega)).mono ?_;rintro e w5 ⟨n,q,hk5⟩;obtain⟨rfl,Yi⟩:=n.fresh (by simp[jC]);have adw:=di Yi;have G:=HT3.o.block (hk5 _ (.inr (.inr rfl)));have hs5:=q.size;have rF:=di (uO.o.trans q);obtain⟨f1,f2,f3,f4⟩:=G;simp only[Nat.zero_add]at f2 f3 f4;clear n Yi q hk5 d1 d2 d3 d4;go_wp2_with fail;refine(tV _ _ _ _ ⟨false,76,b,a⟩ _ adw.o aP (by intro h hc;omega)).mono ?_;rintro e w6 ⟨n,H,hk6⟩;obtain⟨rfl,Yh⟩:=n.fresh (by simp[jC];omega);have R:=di Yh.forget;have hbt:=rF.o.trans H;clear n Yh H hk6 f1 f2 f3 f4;obtain⟨c,S⟩:∃c:List Lit,c=[]++[⟨false,69,a,b⟩]++[⟨false,76,a,b⟩]++[⟨false,76,b,a⟩]:=⟨_,rfl⟩;have hal:c.length=3:=by rw[S];rfl
 have Io:=di hal;rw[<-S]at R;obtain⟨f,hon⟩:∃f:List Bool,f=[]++[false]++[false]++[false]:=⟨_,rfl⟩;rw[<-hon]at R;clear S hal hon;have Ij:=di hbt;clear hbt;go_wp2_with fail
 go_loopg [13] (2 ^ c.length-iF f) (fun gk bg wr=>∃(b:Bool) (f:List Bool),bg=.bool b/\eH wr w.heap.size (fun _=>False) c f/\Below w.heap.size w wr/\gk=if b then 2 ^ c.length-iF f else 0)
 case atStart=>exact⟨true,f,rfl,R.o,Ij.o,rfl⟩
 case round=>
  obtain⟨bm,d,rfl,pF,I,qK⟩:=hrel;have HE2:=di pF;have uJ:=di qK;clear pF qK;cases bm
  ·go_wp2_with fail;go_ret;exact⟨⟨_,rfl⟩,I⟩
  ·have hl3:=eP.below rO.o I;go_wp2_with fail;refine(G7 _ _ c d Z _ _ HE2.o hl3).mono ?_;rintro e T ⟨⟨hbb,rfl⟩,q⟩;have Yq:=I.trans (q.mono I.size);have U:=di (HE2.o.below q);clear hl3;have jO:Hid (∀t,Calls Tryz.prog 196 #[.pointer (some ⟨w.heap.size,0,none⟩)] (T.drewN t) fun e j=>Lj j w.heap.size (fun _=>False) c d e/\Below w.heap.size (T.drewN t) j/\(∀h,False->j.heap[h]?=(T.drewN t).heap[h]?)):=fun t=>JQ _ _ c d _ (U.o.below (below_drewN af t))
   have HR:Hid (∀(g:Bool) (i:List Bool) (j:World),eH j w.heap.size (fun _=>False) c i->(g=true->iF i=iF d+1)->(if g then 2 ^ c.length-iF i else 0)<gk):=by
    intro g i j h1 h2;have hlt:=NN d;have hle:d.length=c.length:=by obtain⟨_,_,_,_,_,_,_,_,h7,_⟩:=U.o;exact h7.symm
    rw[hle]at hlt;have hg:=uJ.o;simp only[if_true]at hg;cases g
    ·exact aQ
    ·have:=h2 rfl;simp only[if_true];exact aO
   obtain⟨va,vo,q1,q2,q3,q4,q5,q6,q7,_⟩:=U.o;have ho3:d.length=3:=by rw[<-q7];exact Io.o
   have uh:=iC.dW q5;obtain⟨ab,cb,hvo,hcb,hmb,J⟩:=uh.form;subst hvo;obtain⟨gb,hgb,_,y0⟩:=J 0 aO;obtain⟨gb1,u,_,y1⟩:=J 1 aO;obtain⟨gb2,v,_,y2⟩:=J 2 aO;subst hgb;injection u with u
   injection u with u;subst u;injection v with v;injection v with v;subst v;have i0:(0:Int)<(d.length:Int):=aO;have i1:(1:Int)<(d.length:Int):=aO;have i2:(2:Int)<(d.length:Int):=aO;generalize d[0]=b0 at *;generalize d[1]=b1 at *;generalize d[2]=b2 at *;clear q1 q3 q4 q5 q6 q7 uh J ho3;cases b0<;>cases b1<;>cases b2<;>cases hbb
   all_goals
    go_wp2_with fail;go_quiet (fail);go_wp2_with fail
    first
     | (go_ret
        exact⟨⟨_,rfl⟩,below_drewN Yq _⟩)
     | (refine(jO.o _).mono ?_
        rintro e V ⟨⟨g,i,rfl,X,hv5⟩,H,_⟩;have hg':=HR.o g i V X hv5;have HF:Hid (∃(b:Bool) (f:List Bool),Value.bool g=.bool b/\eH V w.heap.size (fun _=>False) c f/\Below w.heap.size w V/\(if g then 2 ^ c.length-iF i else 0)=if b then 2 ^ c.length-iF f else 0):=⟨g,i,rfl,X,(below_drewN Yq _).trans H,rfl⟩;have HG:=di hg';generalize (if g then 2 ^ c.length-iF i else 0)=gn at *;clear X hv5 hg';go_wp2_with fail
        go_roundg gn
        case measure=>exact HG.o
        case rel=>exact HF.o)
theorem yU (a:List Bool)(i:Nat)(h:i<a.length)(b:a[i]=false):(a.set i true).count true=a.count true+1:=by
 induction a generalizing i with
 | nil=>simp at h
 | cons d a c=>
  cases i with
  | zero=>
   simp only[List.getElem_cons_zero]at b;subst b;exact aP
  | succ i=>
   simp only[List.getElem_cons_succ]at b;have:=c i ajq b;simp only[List.set_cons_succ,List.count_cons];exact aO
theorem xS {row:Option Nat}(a:w.grownBy W row)(b:W.grownBy u row):w.grownBy u row:=
 ⟨b.os.trans a.os,b.tape.trans a.tape,b.output.trans a.output,Nat.le_trans a.size b.size,fun k c d=>(b.block k (Nat.lt_of_lt_of_le c a.size) d).trans (a.block k c d)⟩
theorem Qa (a:World)(row:Option Nat):a.grownBy a row:=⟨rfl,rfl,rfl,ae,fun _ _ _=>rfl⟩
theorem CX {row:Option Nat}(h:Below w.heap.size w W):w.grownBy W row:=⟨h.os,h.tape,h.output,h.size,fun k a _=>h.block k a⟩
def jG (w0 ws:World)(gr cap:Nat)(RI:List Bool)(m:Bool)(wr:World):Prop:=
 ∃rs:List Bool,wr.ownsRow 0 4 1 (.slice (some ⟨gr,0,none⟩) RI.length cap) RI.length (rs.map Value.bool)/\rs.length=RI.length/\RI.count true<=rs.count true/\(m=true->RI.count true<rs.count true)/\Below w0.heap.size w0 wr/\ws.grownBy wr (some gr)
theorem jG.set {wr:World}{a:List Bool}{c:Bool}(d:wr.ownsRow 0 4 1 (.slice (some ⟨n,0,none⟩) P.length m) P.length (a.map Value.bool))(e:a.length=P.length)(l:P.count true<=a.count true)(f:Below w.heap.size w wr)(g:W.grownBy wr (some n))(h:w.heap.size<=n)
 {i:Nat} (hi:i<a.length) (b:a[i]=false):jG w W n m P c (wr.setCell ⟨n,i,none⟩ (.bool true)):=by
 obtain⟨j,k⟩:=d.stored i (.bool true);refine⟨a.set i true,?_,by simp[e],?_,?_,f.setCell h _,xS g k⟩
 ·rw[List.map_set];exact j
 ·rw[yU a i hi b];exact aO
 ·intro _;rw[yU a i hi b];exact aO
theorem jG.cell {wr:World}(a:wr.ownsRow 0 4 1 (.slice (some ⟨n,0,none⟩) k m) k (P.map Value.bool))(b:P.length=k){i:Nat}(hi:i<P.length):wr.cell? ⟨n,i,none⟩=some (.bool P[i])/\wr.frozen? ⟨n,i,none⟩=false:=by
 refine⟨?_,a.frozenAt i⟩;rw[a.cellAt i aO];simp[hi]
theorem nO (a:n<k)(b:m<k):n*k+m<k*k:=by
 have:(n+1)*k<=k*k:=Nat.mul_le_mul_right _ a;rw[Nat.add_mul]at this;exact aO
theorem Tu (H U:Nat)(p:List dX)(held:List Nat)(V:List (List Lit))(g j:Nat)(e:List Bool)(k w:World)(I:fT k H U p held V)(J:k.heap.size<=g)(q:jG k w g j e false w)(K:e.length=p.length*p.length)(L:p.length<=1000) :
 Calls Tryz.prog 202 #[.pointer (some ⟨H,0,none⟩),.slice (some ⟨g,0,none⟩) e.length j] w fun W X=>(∃m:Bool,W=.returned (.bool m)/\jG k w g j e m X):=by
 have Y:=di q;obtain⟨l,f,h,o,r,Z,_⟩:=q
 have hcapb:e.length<=j/\j<=2 ^ 63-1:=by
  rcases f.2 with ⟨v,_⟩|⟨g',c',cur,v,_,_,h6,M,_⟩
  ·cases v
  ·injection v with h8 h9 h10;subst h10;unfold maxLen at M;exact⟨h6,M⟩
 have x:=I.below Z;have r3:=x.book;obtain⟨vT,r4,hT⟩:=x.terms;obtain⟨aT,jZ,rfl,Yn,Yb,yQ⟩:=hT;clear yQ I x;generalize p.length=n at *;have hnn:n*n<=1000000:=Nat.mul_le_mul L L;have d:=di K;have hrl:e.length<=1000000:=aO;clear f h o r K;go_enter Tryz.func202,Tryz.ntmps202;go_wp2_with fail
 go_loopw [6,7] (fun s i wr=>∃(m:Bool) (a:Nat),s=.bool m/\i=.int .i64 a/\a<=n/\jG k w g j e m wr) (fun _ i _=>n-(intOf i).toNat)
 case atStart=>exact⟨false,0,rfl,rfl,aO,Y.o⟩
 case round=>
  obtain⟨m,a,rfl,rfl,ha,q⟩:=hrel;have N:=di q;clear q
  by_cases y:a<n
  ·go_wp2_with fail
   go_loopw [6,8] (fun s i wr=>∃(m:Bool) (b:Nat),s=.bool m/\i=.int .i64 b/\b<=n/\jG k w g j e m wr) (fun _ i _=>n-(intOf i).toNat)
   case atStart=>exact⟨m,0,rfl,rfl,aO,N.o⟩
   case round=>
    obtain⟨z,b,rfl,rfl,hb,O⟩:=hrel;have A:=di O
    by_cases B:b<n
    ·obtain⟨l,f,h,o,r,t,u⟩:=O;have i1:=nO y B;have i2:=nO B y;obtain⟨P,_⟩:=jG.cell f h (i:=a*n+b) ah8;obtain⟨Q,R⟩:=jG.cell f h (i:=b*n+a) ah8;have C:Hid (l[b*n+a]' ah8=false->jG k w g j e true (wr.setCell ⟨g,b*n+a,none⟩ (.bool true))):=fun D=>jG.set f h o t u J ah8 D;have j1:(0:Int)<=(a:Int)*(n:Int):=bP;have j2:(a:Int)*(n:Int)+(b:Int)<1000000:=bP;have j3:(0:Int)<=(b:Int)*(n:Int):=bP;have j4:(b:Int)*(n:Int)+(a:Int)<1000000:=bP;have j5:(a:Int)*(n:Int)+(b:Int)<(e.length:Int):=ai1;have j6:(b:Int)*(n:Int)+(a:Int)<(e.length:Int):=ai1;generalize l[a*n+b]' ah8=x1 at *;generalize l[b*n+a]' ah8=x2 at *;clear f h o r t u;cases x1
     ·go_wp2_with fail;go_roundw
      case rel=>exact⟨z,b+1,rfl,bJ,aO,A.o⟩
      case measure=>exact akL
     ·cases x2
      all_goals
       go_wp2_with fail
       go_loopw [6,9] (fun s i wr=>∃(m:Bool) (c:Nat),s=.bool m/\i=.int .i64 c/\c<=n/\jG k w g j e m wr) (fun _ i _=>n-(intOf i).toNat)
       case atStart=>first|exact⟨z,0,rfl,rfl,aO,A.o⟩|exact⟨true,0,rfl,rfl,aO,C.o rfl⟩|exact⟨true,0,rfl,rfl,aO,C.o⟩|exact⟨true,0,rfl,rfl,aO,C.o trivial⟩
       case round=>
        obtain⟨E,c,rfl,rfl,hc,S⟩:=hrel;have F:=di S
        by_cases T:c<n
        ·clear P Q R;obtain⟨l,f,h,o,r,t,u⟩:=S;have i3:=nO B T;have i4:=nO y T;obtain⟨P,_⟩:=jG.cell f h (i:=b*n+c) ah8;obtain⟨Q,R⟩:=jG.cell f h (i:=a*n+c) ah8;have G:Hid (l[a*n+c]' ah8=false->jG k w g j e true (wr.setCell ⟨g,a*n+c,none⟩ (.bool true))):=fun D=>jG.set f h o t u J ah8 D;have k2:(b:Int)*(n:Int)+(c:Int)<1000000:=bP;have k4:(a:Int)*(n:Int)+(c:Int)<1000000:=bP;have k5:(b:Int)*(n:Int)+(c:Int)<(e.length:Int):=ai1;have k6:(a:Int)*(n:Int)+(c:Int)<(e.length:Int):=ai1;generalize l[b*n+c]' ah8=x3 at *;generalize l[a*n+c]' ah8=x4 at *;clear f h o r t u;cases x3
         ·exact amF
         ·cases x4
          ·go_wp2_with fail;go_roundw
           case rel=>first|exact⟨true,c+1,rfl,bJ,aO,G.o rfl⟩|exact⟨true,c+1,rfl,bJ,aO,G.o⟩|exact⟨true,c+1,rfl,bJ,aO,G.o trivial⟩
           case measure=>exact akL
          ·exact amF
        ·go_wp2_with fail;go_roundw
         case rel=>exact⟨E,b+1,rfl,bJ,aO,F.o⟩
         case measure=>exact akL
    ·go_wp2_with fail;go_roundw
     case rel=>exact⟨z,a+1,rfl,bJ,aO,A.o⟩
     case measure=>exact akL
  ·go_wp2_with fail;go_ret;exact⟨m,rfl,N.o⟩
theorem jG.below {wr:World}{b:Bool}(h:jG w W n m P b wr)(a:Below wr.heap.size wr u):jG w W n m P b u:=by
 obtain⟨d,e,f,g,i,c,j⟩:=h;exact⟨d,ownsRow_below e a,f,g,i,c.trans (a.mono c.size),xS j (CX a)⟩
def zg (ts:List dX):Prop:=∀i j (hi:i<ts.length) (hj:j<ts.length),ts[i].op=13->ts[j].op=13->ts[i].sym=ts[j].sym->ts[i].args.length=ts[j].args.length
theorem jc.new (w:World)(t:dX)(v:Value)(a:TypeId):jc (w.alloc (.cells #[.string ⟨t.text.toArray⟩,.int .i64 t.op,.int .i64 t.sort,.int .i64 t.sym,v] a)) w.heap.size t v:=⟨aP,aP,aP,aP,aP⟩
theorem ZT (C v:Nat)(a:List dX)(held:List Nat)(cs:List (List Lit))(j s:Nat)(n:List Bool)(l w:World)(M:fT l C v a held cs)(hgr:l.heap.size<=j)(D:jG l w j s n false w)(hn:n.length=a.length*a.length)(hts:a.length<=1000)(hwf:iU a)(has:zg a) :
 Calls Tryz.prog 203 #[.pointer (some ⟨C,0,none⟩),.slice (some ⟨j,0,none⟩) n.length s] w fun bq w'=>(∃o:Bool,bq=.returned (.bool o)/\jG l w j s n o w'):=by
 have HST:=di D;obtain⟨H,t,x,I,N,hb0,_⟩:=D
 have hcapb:n.length<=s/\s<=2 ^ 63-1:=by
  rcases t.2 with ⟨h,_⟩|⟨g',c',cur,h,_,_,h6,h7,_⟩
  ·cases h
  ·injection h with h8 h9 h10;subst h10;unfold maxLen at h7;exact⟨h6,h7⟩
 have O:=M.below hb0;have r3:=O.book;obtain⟨vT,r4,hT⟩:=O.terms;obtain⟨aT,jZ,rfl,Yn,Yb,yQ⟩:=hT;have Y0:Hid (∀i (hi:i<a.length),∃m jZ P lu,Ff l C v a i a[i] m jZ P lu):=fun i hi=>M.look hi;have Ia:=di hwf;have HAS:=di has;have hnn:a.length*a.length<=1000000:=Nat.mul_le_mul hts hts;have u:=di hn;have hrl:n.length<=1000000:=aO;clear t x I N hn yQ M O hwf has;go_enter Tryz.func203,Tryz.ntmps203;go_wp2_with fail
 go_loopw [6,7] (fun Q i wr=>∃(o:Bool) (d:Nat),Q=.bool o/\i=.int .i64 d/\d<=a.length/\jG l w j s n o wr) (fun _ i _=>a.length-(intOf i).toNat)
 case atStart=>exact⟨false,0,rfl,rfl,aO,HST.o⟩
 case round=>
  obtain⟨o,d,rfl,rfl,ha,D⟩:=hrel;have H1:=di D;clear D
  by_cases E:d<a.length
  ·go_wp2_with fail
   go_loopw [6,8] (fun Q i wr=>∃(o:Bool) (b:Nat),Q=.bool o/\i=.int .i64 b/\b<=a.length/\jG l w j s n o wr) (fun _ i _=>a.length-(intOf i).toNat)
   case atStart=>exact⟨o,0,rfl,rfl,aO,H1.o⟩
   case round=>
    obtain⟨J,b,rfl,rfl,hb,uq⟩:=hrel;have R:=di uq
    by_cases F:b<a.length
    ·obtain⟨H,t,x,I,N,e,s6⟩:=uq;obtain⟨m,cT,P,cA,g⟩:=Y0.o d E;obtain⟨g',cT',aB,cB,p⟩:=Y0.o b F;have q:=ai g.op;have abg:=ai p.op;have y0:=(e.cell (p:=⟨C,0,none⟩) (ai g.book)).trans g.book;have S:=(e.cell (p:=⟨v,1,none⟩) (ai g.terms)).trans g.terms;have K:=(e.cell (p:=⟨v,1,none⟩) (ai g.terms)).trans p.terms;rw[S]at K;injection K with K
     injection K with G _ y3;injection G with G;injection G with G;subst G y3;have a1:=(e.cell (p:=⟨m,d*5,none⟩) q).trans g.text;have a2:=(e.cell (p:=⟨m,d*5+1,none⟩) q).trans g.op;have a3:=(e.cell (p:=⟨m,d*5+2,none⟩) q).trans g.sort;have a4:=(e.cell (p:=⟨m,d*5+3,none⟩) q).trans g.sym;have a5:=(e.cell (p:=⟨m,d*5+4,none⟩) q).trans g.args;have b1:=(e.cell (p:=⟨m,b*5,none⟩) q).trans p.text;have b2:=(e.cell (p:=⟨m,b*5+1,none⟩) q).trans p.op;have b3:=(e.cell (p:=⟨m,b*5+2,none⟩) q).trans p.sort;have b4:=(e.cell (p:=⟨m,b*5+3,none⟩) q).trans p.sym;have b5:=(e.cell (p:=⟨m,b*5+4,none⟩) q).trans p.args;have hgs:m<wr.heap.size:=Nat.lt_of_lt_of_le q e.size;have hps:C<wr.heap.size:=ai y0;have hbs:v<wr.heap.size:=ai S;have hrs:j<wr.heap.size:=(t.lt j rfl).2;have i1:=nO E F;obtain⟨c1,f1⟩:=jG.cell t x (i:=d*a.length+b) aiJ;have j1:(0:Int)<=(d:Int)*(a.length:Int):=bP;have j2:(d:Int)*(a.length:Int)+(b:Int)<1000000:=bP;have j5:(d:Int)*(a.length:Int)+(b:Int)<(n.length:Int):=by rw[u.o,<-Int.natCast_mul];omega
     have hlA:=g.aaL;have hmA:=g.aaI;have hlB:=p.aaL;have hmB:=p.aaI;have EE:=g.adW;have hTM:=g.adT;have HB2:Hid (∀X Y,jG l w j s n J ((wr.alloc X).alloc Y)):=fun X Y=>R.o.below (((Below.refl wr.heap.size wr).alloc ae X).alloc aP Y);have HXL:=di (HAS.o d b E F);have oQ:=di g.arg;have adC:=di p.arg;have HW1:=di (Ia.o d E);have HW2:=di (Ia.o b F);have mh:=di e;have adi:Hid (H[d*a.length+b]' aiJ=false->∀W,Below wr.heap.size wr W->jG l w j s n true (W.setCell ⟨j,d*a.length+b,none⟩ (.bool true))):=fun hf W A=>jG.set (ownsRow_below t A) x I (e.trans (A.mono e.size)) (xS s6 (CX A)) hgr aiJ hf;have HRC:Hid (∀i,i<a.length*a.length->∃v:Bool,∀W,Below wr.heap.size wr W->W.cell? ⟨j,i,none⟩=some (.bool v)/\W.frozen? ⟨j,i,none⟩=false):=fun i hi=>⟨H[i]' aiJ,fun W A=>⟨(A.cell (p:=⟨j,i,none⟩) hrs).trans (jG.cell t x aiJ).1,(A.frozen (p:=⟨j,i,none⟩) hrs).trans (jG.cell t x aiJ).2⟩⟩;generalize H[d*a.length+b]' aiJ=x1 at *;generalize a[d]=c at *;generalize a[b]=f at *;clear t x I N e s6 g p
     by_cases y:x1=true\/c.op≠13\/f.op≠13\/c.sym≠f.sym
     ·have hdec:x1=true\/(x1=false/\((c.op:Int) !=13)=true)\/(x1=false/\((c.op:Int) !=13)=false/\((f.op:Int) !=13)=true)\/(x1=false/\((c.op:Int) !=13)=false/\((f.op:Int) !=13)=false/\((c.sym:Int) !=(f.sym:Int))=true):=by
       cases x1
       ·by_cases T:c.op=13
        ·by_cases h2:f.op=13
         ·refine .inr (.inr (.inr ⟨rfl,by simp[T],by simp[h2],?_⟩));rw[bne_iff_ne];rcases y with h|h|h|h
          ·cases h
          ·exact absurd T h
          ·exact absurd h2 h
          ·exact aO
         ·exact .inr (.inr (.inl ⟨rfl,by simp[T],ajj⟩))
        ·exact .inr (.inl ⟨rfl,ajj⟩)
       ·exact .inl rfl
      clear y;rcases hdec with h|⟨h,U⟩|⟨h,U,q2⟩|⟨h,U,q2,q3⟩
      all_goals
       subst h;go_wp2_with fail;go_roundw
       case rel=>exact⟨J,b+1,rfl,bJ,aO,HB2.o _ _⟩
       case measure=>exact akL
     ·have hx1:x1=false:=by cases x1;rfl;exact absurd (.inl rfl) y
      have V:c.op=13:=by by_cases h:c.op=13;exact h;exact absurd (.inr (.inl h)) y
      have Z:f.op=13:=by by_cases h:f.op=13;exact h;exact absurd (.inr (.inr (.inl h))) y
      have hsy:c.sym=f.sym:=by by_cases h:c.sym=f.sym;exact h;exact absurd (.inr (.inr (.inr h))) y
      have hlen:=HXL.o V Z hsy;have hlen1:c.args.length<=f.args.length:=aO;have U:((c.op:Int) !=13)=false:=by simp[V]
      have q2:((f.op:Int) !=13)=false:=by simp[Z]
      have q3:((c.sym:Int) !=(f.sym:Int))=false:=by simp[hsy]
      have adj:=di (adi.o hx1);subst hx1;clear y V Z hsy hlen;go_wp2_with fail
      go_loopw [11,12] (fun al i r=>∃(k:Nat) (L:Bool),al=.bool L/\i=.int .i64 k/\k<=c.args.length/\jc r wr.heap.size c (.slice P c.args.length cA)/\jc r (wr.heap.size+1) f (.slice aB f.args.length cB)/\Below wr.heap.size wr r) (fun _ i _=>c.args.length-(intOf i).toNat)
      case atStart=>
       refine⟨0,true,rfl,rfl,aO,⟨aP,aP,aP,aP,aP⟩,⟨aP,aP,aP,aP,aP⟩,((Below.refl wr.heap.size wr).alloc ae _).alloc aP _⟩
      case round=>
       rename World=>r;obtain⟨k,L,rfl,rfl,hk,hbx,hby,z⟩:=hrel;have ug:=di hbx;have HBY:=di hby;have z5:=hbx.args;have v5:=hby.args;have hbw0:=mh.o.trans (z.mono mh.o.size);clear hbx hby y0 S a1 a2 a3 a4 a5 b1 b2 b3 b4 b5 c1 f1
       by_cases aeh:k<c.args.length
       ·obtain⟨gA,hgA,Wn,kA⟩:=oQ.o k aeh;obtain⟨gB,hgB,aep,kB⟩:=adC.o k aO;subst hgA hgB;have kA':=(hbw0.cell (p:=⟨gA,k,none⟩) Wn).trans kA;have kB':=(hbw0.cell (p:=⟨gB,k,none⟩) aep).trans kB;have hu:c.args[k]<a.length:=Nat.lt_trans (HW1.o.args _ aP) E;have hv:f.args[k]<a.length:=Nat.lt_trans (HW2.o.args _ aP) F;have i3:=nO hu hv;obtain⟨rb,B⟩:=HRC.o _ i3;have d1:=(B r z).1;generalize c.args[k]=bg at *;generalize f.args[k]=bn at *;have k1:(0:Int)<=(bg:Int)*(a.length:Int):=bP;have k2:(bg:Int)*(a.length:Int)+(bn:Int)<1000000:=bP;have k3:(bg:Int)*(a.length:Int)+(bn:Int)<(n.length:Int):=by rw[u.o,<-Int.natCast_mul];omega
        have l1:(k:Int)<(c.args.length:Int):=aO;have l2:(k:Int)<(f.args.length:Int):=aO;have l3:(0:Int)<=(k:Int):=aO;clear B kA kB;cases L
        all_goals
         go_wp2_with fail;go_quiet (fail);go_wp2_with fail;go_roundw
         case rel=>exact⟨k+1,_,rfl,bJ,aO,ug.o.below (below_drewN af _) (ai ug.o.op),HBY.o.below (below_drewN af _) (ai HBY.o.op),below_drewN z _⟩
         case measure=>exact akL
       ·obtain⟨rb,B⟩:=HRC.o _ i1;have d1:=(B r z).1;have d2:=(B r z).2;have hset:=adj.o r z;have hkeep:=R.o.below z;have LD:=di hset;have adu:=di hkeep;clear hset hkeep B;cases L
        ·go_wp2_with fail;go_roundw
         case rel=>exact⟨J,b+1,rfl,bJ,aO,adu.o⟩
         case measure=>exact akL
        ·go_wp2_with fail;go_roundw
         case rel=>exact⟨true,b+1,rfl,bJ,aO,LD.o⟩
         case measure=>exact akL
    ·go_wp2_with fail;go_roundw
     case rel=>exact⟨J,d+1,rfl,bJ,aO,R.o⟩
     case measure=>exact akL
  ·go_wp2_with fail;go_ret;exact⟨o,rfl,H1.o⟩
end Go.Proofs.YtbichedkajfmiaaGreatDoor
