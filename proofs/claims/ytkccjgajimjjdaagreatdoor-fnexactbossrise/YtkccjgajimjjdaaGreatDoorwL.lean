import Derived.Test.YtkccjgajimjjdaaGreatDoorwJ
import Derived.Test.YtkccjgajimjjdaaGreatDooruI
set_option linter.unusedVariables false
set_option maxHeartbeats 8000000
set_option maxRecDepth 100000
namespace Go.Proofs.YtkccjgajimjjdaaGreatDoor
open Proofs.Tryz Go.RowKit
variable{α:Type}{A B c j m:Nat}{w:World}{a:OA}{b:Bs}{q:Ba}
theorem a2p(fs:List T.F2):∃ms,G.dh fs ms:=by
 by_cases ht:T.D_ fs;rotate_left
 ·exact⟨[],.inl ⟨ht,rfl⟩⟩
 by_cases hf:G.Free fs G.Iu
 ·exact⟨[],.inr (.inl ⟨ht,hf,rfl⟩)⟩
 obtain⟨i,b,g⟩:∃i,i<fs.length/\(fs.getD i T.G9).nm=G.Iu:=Classical.byContradiction λh=>hf λi b e=>h ⟨i,b,e⟩;obtain⟨a,ok,f⟩:∃a ok,G.w_ (fs.getD i T.G9).tx.data.toList a ok:=by
  by_cases h:∃js,G.Ed js=true/\js.flatMap G.E_=(fs.getD i T.G9).tx.data.toList/\(fs.getD i T.G9).tx.data.toList.length<=300
  ·obtain⟨js,h1,h2,d⟩:=h;exact⟨js,true,λ_=>⟨h1,h2,d⟩,λc=>by cases c⟩
  exact⟨[],false,(λc=>by cases c),λ_=>⟨rfl,λjs h1 h2=>Nat.lt_of_not_le λd=>h ⟨js,h1,h2,d⟩⟩⟩
 by_cases h:ok=true/\G.Vm fs a
 ·exact⟨a,.inr (.inr ⟨ht,i,b,g,a,ok,f,.inl ⟨h.1,h.2,rfl⟩⟩)⟩
 exact⟨[],.inr (.inr ⟨ht,i,b,g,a,ok,f,.inr ⟨h,rfl⟩⟩)⟩
def FV(b:Bs)(m:MS):Prop:=nZ b m/\(0<=b.ed/\b.ed<=1000)/\IJ b.rt/\∃ms,G.dh b.fs ms/\dG ms b.rn/\JbS b
def nP(b:Bs)(m:MS):Prop:=(b.up=true/\FV b m)\/(b.up=false/\xC b)
theorem c18(b:Bs)(q:Ba)(w:World)(hl:Ug b 1048576)(hsl:b.sf.length+b.lo.length<=1048576)(hcp:ER b q)(hat:Gh w b q):
 Calls prog 18 #[.agg (bsV b q).toArray] w λe w'=>((e=.returned (.bool false)/\¬(Pre b/\1<=b.wd/\b.wd<=8))\/∃cd m,Out RES (b.sf++b.lo) b.wd cd m/\Rb (Pre b/\cd=0/\nP b m) e)/\Bw w w':=by
 have L:=U0 hat;have HL:=U0 hl;have HCP:=U0 hcp;have hhl:=hl.hl;have hrl:=hl.rl;have HES:Hid (∀i,((b.sf++b.lo).getD i ByteArray.empty).size<=1048576):=λi=>by
  by_cases h:i<b.sf.length
  ·rw[show(b.sf++b.lo).getD i ByteArray.empty=b.sf.getD i ByteArray.empty by simp[List.getD,G_ h]];exact hl.ss i
  rw[show(b.sf++b.lo).getD i ByteArray.empty=b.lo.getD (i-b.sf.length) ByteArray.empty by simp[List.getD,Ue (Js h)]];exact hl.ls _
 clear hat hl hcp
 go_in
 go_upto_region 1 with fail
 have U:=U0 (X4 w (bsV b q) 47);have B0:=U0 (Y6 (w:=w) (o:=.cells (bsV b q).toArray 47));generalize w.alloc (.cells (bsV b q).toArray 47)=V at*;have a0:=U.out.cell 0;have a2:=U.out.cell 2;have J:=U.out.cell 11;simp only[gz]at a0 a2 J
 go_wp2_with fail
 refine(QV b.wd V).mono ?_;rintro e V'⟨rfl,hw⟩;obtain rfl:=hw.symm;by_cases h1:1<=b.wd/\b.wd<=8;rotate_left
 ·have E:Hid (¬(Pre b/\1<=b.wd/\b.wd<=8)):=λh=>h1 h.2;rw[o_ h1];go_wp2;go_ret;exact⟨.inl ⟨rfl,E⟩,B0⟩
 rw[X_ h1]
 go_wp2_with fail
 refine(c59 b.hd.length 1 4 V).mono ?_;rintro e V'⟨rfl,hw⟩;obtain rfl:=hw.symm;by_cases h2:1<=b.hd.length/\b.hd.length<=4;rotate_left
 ·have E:Hid (¬(Pre b/\1<=b.wd/\b.wd<=8)):=λh=>h2 h.1.2.1;rw[show decide (1<=(b.hd.length:Int)/\(b.hd.length:Int)<=4)=false from o_ O0];go_wp2;go_ret;exact⟨.inl ⟨rfl,E⟩,B0⟩
 rw[show decide (1<=(b.hd.length:Int)/\(b.hd.length:Int)<=4)=true from X_ O0]
 go_wp2_with fail
 refine(c59 b.now 0 1000000 V).mono ?_;rintro e V'⟨rfl,hw⟩;obtain rfl:=hw.symm;by_cases h3:0<=b.now/\b.now<=1000000;rotate_left
 ·have E:Hid (¬(Pre b/\1<=b.wd/\b.wd<=8)):=λh=>h3 h.1.1;rw[o_ h3];go_wp2;go_ret;exact⟨.inl ⟨rfl,E⟩,B0⟩
 rw[X_ h3];clear a0 a2 J
 go_upto_region 3 with fail
 go_cut[3] from 4 (λs3 wx=>∃A cd m fa ta ra fc tc rc,s3=.pointer (some ⟨A,0,none⟩)/\Hid (MT RES w b q A cd m fa ta ra fc tc rc wx))
 case first=>
  have D:Hid (∀u,Bw V u->u.cell? ⟨w.heap.size,0,none⟩=some (vI b.wd)/\u.cell? ⟨w.heap.size,5,none⟩=some (vL q.sa b.sf.length q.sc)/\u.cell? ⟨w.heap.size,6,none⟩=some (vL q.la b.lo.length q.lc)):=λu hu=>have h:=U.out.below hu U.out.lt;⟨h.cell 0,h.cell 5,h.cell 6⟩
  have bd:Bw V V.drew:=(G5 _ _).drew;have HCA:Hid (∀u,Bw V u->Calls prog 21 #[.agg #[.slice q.sa b.sf.length q.sc,.slice q.la b.lo.length q.lc]] u λe w'=>(∃a c,e=.returned (vL a (b.sf++b.lo).length c)/\Z7 w' a (b.sf++b.lo))/\Bw u w'):=λu hu=>c21 b.sf b.lo q.sa q.la q.sc q.lc u hsl (P6 L.out.sf (J5 B0 hu)) (P6 L.out.lo (J5 B0 hu));have HCB:Hid (∀u a c,Bw V u->Z7 u a (b.sf++b.lo)->Calls prog 20 #[.slice a (b.sf.length+b.lo.length) c,.int .i64 b.wd] u λe w'=>(∃cd m fa fc ta tc ra rc,e=.returned (.agg #[vI cd,vI m.ep,vL fa m.fs.length fc,vI m.s.wd,vL ta m.s.ts.length tc,vL ra m.s.rs.length rc])/\Out RES (b.sf++b.lo) b.wd cd m/\Kp u.heap.size w' λu=>T.G6 u fa m.fs/\Ef u ta ra m.s)/\Bw u w'):=λu a c hu h=>by
   have hc:=a4U a c (b.sf++b.lo) b.wd u (by rw[P9];exact hsl) HES h;rw[P9]at hc;exact hc
  have HMK:Hid (∀(y z:World)(A:Nat)(cd:Int)(m:MS)(fa ta ra:OA)(fc tc rc:Nat),Bw V y->V.heap.size<=A->Jr A y z->Cl z A 62 [vI cd,vI m.ep,vL fa m.fs.length fc,vI m.s.wd,vL ta m.s.ts.length tc,vL ra m.s.rs.length rc]->Out RES (b.sf++b.lo) b.wd cd m->T.G6 z fa m.fs/\Ef z ta ra m.s->MT RES w b q A cd m fa ta ra fc tc rc z):=λy z A cd m fa ta ra fc tc rc h1 h2 h3 h4 Q Z=>by
   have Y:=h1.trans (h3.below h2);exact⟨Q,h4,U.out.below Y U.out.lt,Z.1,Z.2,J5 B0.out Y⟩
  refine FI D bd Y1 λhH=>?_;refine p_ 0 ?_;refine p_ 1 ?_;refine p_ 3 ?_;refine p_ 4 ?_;refine wpAnyH_ready (rs:=[2,6]) Y1 E5 (AllReadyH.cons (o:=⟨some 25,.call ⟨.value (.func 21),#[.tmp 24],#[37]⟩,22,_,_,none⟩) rfl (λK d=>?_) (AllReadyH.cons (o:=⟨some 3,.alloc 62,0,_,_,none⟩) rfl (λK d=>?_) AllReadyH.nil))
  ·go_simp;refine(HCA _ bd).mono ?_;rintro e y1⟨⟨a1,k1,rfl,h1⟩,f⟩;have F:=bd.trans f;have S1:=U0 h1;clear h1 f
   go_wp2_with fail
   refine A8 d (D _ F) λhH=>?_;clear d K;refine wpAnyH_ready (rs:=[5,6]) Y1 E5 (AllReadyH.cons (o:=⟨some 28,.call ⟨.value (.func 20),#[.tmp 25,.tmp 27],#[22,3]⟩,62,_,_,none⟩) rfl (λK d=>?_) (AllReadyH.cons (o:=⟨some 3,.alloc 62,0,_,_,none⟩) rfl (λK d=>?_) AllReadyH.nil))
   ·go_simp;refine(HCB y1 a1 k1 F S1).mono ?_;rintro e y2⟨⟨cd,m,fa,fc,ta,tc,ra,rc,rfl,ho,p⟩,f⟩;have x:=J5 F f;have l:=U0 ho;have HK:=U0 p;clear ho p f
    go_wp2_with fail
    refine A8 d (D _ x) λhH=>?_;clear d K;refine rq 6 λK d=>?_;go_simp;have N:=U0 (X4 y2 [vO,vO,vN,vO,vN,vN] 62);have b3:Bw V (y2.alloc (.cells #[vO,vO,vN,vO,vN,vN] 62)):=x.alloc x.size _;refine A8 d (D _ b3) λhH=>?_;clear d K;refine rq 7 λK d=>?_;refine t_ rfl 62 _ _ rfl (j:=0) rfl rfl N X7 (je rfl rfl rfl rfl rfl rfl) Y1 ?_;intro z cz C;have r:=U0 (HMK.out _ z y2.heap.size cd m fa ta ra fc tc rc b3 x.size C cz l (HK z (by have:=C.size;simp at this;omega) (λq _ hq=>(C.block q O0).trans (Lib.alloc_old y2 _ q hq))));refine A8 d (D _ (b3.trans (C.below x.size))) λhH=>?_;clear d K;refine wdn ?_
    go_wp2_with fail
    go_meet
    exact⟨_,_,_,_,_,_,_,_,_,rfl,r⟩
   go_simp;have N:=U0 (X4 y1 [vO,vO,vN,vO,vN,vN] 62);have x:Bw V (y1.alloc (.cells #[vO,vO,vN,vO,vN,vN] 62)):=F.alloc F.size _;have S2:=U0 (P6 S1 (Y6 (w:=y1) (o:=.cells #[vO,vO,vN,vO,vN,vN] 62)));refine A8 d (D _ x) λhH=>?_;clear d K;refine rq 5 λK d=>?_;go_simp;refine(HCB _ a1 k1 x S2).mono ?_;rintro e y3⟨⟨cd,m,fa,fc,ta,tc,ra,rc,rfl,ho,p⟩,f⟩;have by3:=J5 x f;have l:=U0 ho;have HK:=U0 p;have a6g:=U0 (N.out.below f N.out.lt);have hAl:=U0 N.out.lt;clear ho p f
   go_wp2_with fail
   refine A8 d (D _ by3) λhH=>?_;clear d K;refine rq 7 λK d=>?_;refine t_ rfl 62 _ _ rfl (j:=0) rfl rfl a6g X7 (je rfl rfl rfl rfl rfl rfl) Y1 ?_;intro z cz C;have r:=U0 (HMK.out _ z y1.heap.size cd m fa ta ra fc tc rc by3 F.size C cz l (HK.out.on C hAl).now);refine A8 d (D _ (by3.trans (C.below F.size))) λhH=>?_;clear d K;refine wdn ?_
   go_wp2_with fail
   go_meet
   exact⟨_,_,_,_,_,_,_,_,_,rfl,r⟩
  go_simp;have CA0:=U0 (X4 V.drew [vO,vO,vN,vO,vN,vN] 62);have F:Bw V (V.drew.alloc (.cells #[vO,vO,vN,vO,vN,vN] 62)):=bd.alloc X7 _;refine A8 d (D _ F) λhH=>?_;clear d K;refine rq 2 λK d=>?_;go_simp;refine(HCA _ F).mono ?_;rintro e y2⟨⟨a1,k1,rfl,h1⟩,f⟩;have x:=J5 F f;have N:=U0 (CA0.out.below f CA0.out.lt);have S1:=U0 h1;clear h1 f
  go_wp2_with fail
  refine A8 d (D _ x) λhH=>?_;clear d K;refine rq 5 λK d=>?_;go_simp;refine(HCB y2 a1 k1 x S1).mono ?_;rintro e y3⟨⟨cd,m,fa,fc,ta,tc,ra,rc,rfl,ho,p⟩,f⟩;have by3:=J5 x f;have l:=U0 ho;have HK:=U0 p;have a6g:=U0 (N.out.below f N.out.lt);have hAl:=U0 N.out.lt;clear ho p f
  go_wp2_with fail
  refine A8 d (D _ by3) λhH=>?_;clear d K;refine rq 7 λK d=>?_;refine t_ rfl 62 _ _ rfl (j:=0) rfl rfl a6g X7 (je rfl rfl rfl rfl rfl rfl) Y1 ?_;intro z cz C;have r:=U0 (HMK.out _ z V.drew.heap.size cd m fa ta ra fc tc rc by3 X7 C cz l (HK.out.on C hAl).now);refine A8 d (D _ (by3.trans (C.below X7))) λhH=>?_;clear d K;refine wdn ?_
  go_wp2_with fail
  go_meet
  exact⟨_,_,_,_,_,_,_,_,_,rfl,r⟩
 obtain⟨A,cd,m,fa,ta,ra,fc,tc,rc,rfl,r⟩:=hcut;have l:=U0 r.out.out;have CM:=U0 r.out.cm;have CB:=U0 r.out.cb;have BC:=U0 r.out.bel;have HF:=U0 r.out.fl;have HSt:=U0 r.out.st;have HSM:=U0 r.out.out.1;clear r U B0;have m0:=CM.out.cell 0;simp only[gz]at m0;by_cases hcd:cd=0;rotate_left
 ·have E:Hid (¬(Pre b/\cd=0/\nP b m)):=λh=>hcd h.2.1;go_wp2;go_ret;exact⟨.inr ⟨cd,m,l,X5 E⟩,BC⟩
 rw[hcd]at m0;have HCD:=U0 hcd;clear hcd;obtain⟨bb,off,hc⟩:=Jg L.out.hd;have HC:=U0 hc;clear hc
 go_upto_region 6 with fail
 clear m0;go_wp2;go_loopw[4] (λi wr=>∃k:Nat,k<=b.hd.length/\i=.int .i64 k/\Hid (∀j,j<k-> -1<=b.hd.getD j 0/\b.hd.getD j 0<=b.now)/\Below wc.heap.size wc wr) (λi _=>b.hd.length-(RowKit.intOf i).toNat);exact⟨0,J4 _,rfl,λj h=>absurd h (y9 _),G5 _ _⟩;generalize wr=wo at*;obtain⟨k,p,rfl,hd,f⟩:=hrel;have t:=U0 (CB.out.below f CB.out.lt);have BW:=U0 (J5 BC f);have MW:=U0 (CM.out.below f CM.out.lt);have FW:=U0 (T.U5 HF f);have SW:=U0 (HSt.out.below f);have HBW:=U0 f;clear f;have a2:=t.out.cell 2;have J:=t.out.cell 11;simp only[gz]at a2 J;by_cases O:k<b.hd.length
 ·obtain⟨ha,hbw,hcell⟩:=Jd HC.out O;rw[ha]at J;have HAq:=U0 ha;have g0:=(BW.out.cell (by exact hbw)).trans (hcell k O);have HD:Hid (-1<=b.hd.getD k 0/\b.hd.getD k 0<=b.now->∀j,j<k+1-> -1<=b.hd.getD j 0/\b.hd.getD j 0<=b.now):=λW j hj=>by
   rcases D8 j k with h|h
   ·exact hd j h
   obtain rfl:j=k:=O0;exact W
  have E:Hid (¬(-1<=b.hd.getD k 0/\b.hd.getD k 0<=b.now)->¬(Pre b/\cd=0/\nP b m)):=λW h=>W (h.1.2.2 k O);generalize b.hd.getD k 0=X at*;clear hcell hd ha;by_cases hx:-1<=X/\X<=b.now
  ·have HD1:=U0 (HD.out hx);have H17:Hid (∀u,Calls prog 59 #[.int .i64 X,.int .i64 (-1),.int .i64 b.now] u λe w'=>e=.returned (.bool true)/\w'=u):=λu=>by
    have h:=c59 X (-1) b.now u;rw[X_ hx]at h;exact h
   go_wp2_with fail
   go_region_with(go_at_call 59;refine(H17.out _).mono ?_;rintro e w1⟨rfl,rfl⟩)
   all_goals go_wp2
   all_goals go_roundw
   all_goals first
    | exact⟨k+1,O0,by go_num,HD1,HBW.out.drew⟩
    | (exact Z9)
  have n:=U0 (E.out hx);have H17:Hid (∀u,Calls prog 59 #[.int .i64 X,.int .i64 (-1),.int .i64 b.now] u λe w'=>e=.returned (.bool false)/\w'=u):=λu=>by
   have h:=c59 X (-1) b.now u;rw[o_ hx]at h;exact h
  go_wp2_with fail
  go_region_with(go_at_call 59;refine(H17.out _).mono ?_;rintro e w1⟨rfl,rfl⟩)
  all_goals go_wp2
  all_goals go_ret
  all_goals exact⟨.inr ⟨cd,m,l.out,X5 n.out⟩,BW.out.drew⟩
 obtain rfl:k=b.hd.length:=O0;have HPR:Hid (Pre b):=⟨h3,h2,hd⟩;clear hd O p a2 J;have a1:=t.out.cell 1;have J:=t.out.cell 11;simp only[gz]at a1 J
 cases hup:b.up with
 | false=>
  rw[hup]at a1;have HUP:=U0 hup;clear hup
  go_wp2_with(refine Vb rfl (d_ 47 _ rfl (B:=w.heap.size) (j:=0) (cs:=(bsV b q)) rfl (λq v e=>by rw[o9];exact(t.out.cell q).trans e) underlying47 rfl Y1) ?_)
  refine(c60 b q wo HL (L.out.below BW)).mono ?_;rintro e w2⟨⟨H,rfl,g⟩,P⟩;have HE:Hid (H=true↔Pre b/\cd=0/\nP b m):=⟨λh=>⟨HPR,HCD,.inr ⟨HUP,g.1 h⟩⟩,λh=>g.2 (by rcases h.2.2 with⟨k,_⟩|⟨_,k⟩;(rw[HUP.out]at k;cases k);exact k)⟩;have B2:=U0 (J5 BW P);clear g P;go_wp2;go_ret;exact⟨.inr ⟨cd,m,l,_,rfl,HE⟩,B2⟩
 | true=>
 rw[hup]at a1;have HUP:=U0 hup;clear hup;have R:Hid (¬FV b m->¬(Pre b/\cd=0/\nP b m)):=λh k=>by
  rcases k.2.2 with⟨_,k⟩|⟨k,_⟩
  ·exact h k
  rw[HUP.out]at k;cases k
 have HYE:Hid (FV b m->Pre b/\cd=0/\nP b m):=λh=>⟨HPR,HCD,.inl ⟨HUP,h⟩⟩
 go_upto_region 13 with fail
 clear a1 J;have a3:=t.out.cell 3;have a4:=t.out.cell 4;have a7:=t.out.cell 7;have a8:=t.out.cell 8;have a9:=t.out.cell 9;have a10:=t.out.cell 10;have I:=t.out.cell 12;simp only[gz]at a3 a4 a7 a8 a9 a10 I;have m1:=MW.out.cell 1;have m2:=MW.out.cell 2;have m3:=MW.out.cell 3;have m4:=MW.out.cell 4;have m5:=MW.out.cell 5;simp only[gz]at m1 m2 m3 m4 m5;by_cases Q:b.ep=m.ep;rotate_left
 ·have n:=U0 (R.out (λh=>Q h.1.2.1));go_wp2;go_ret;exact⟨.inr ⟨cd,m,l,X5 n⟩,BW⟩
 have H5:=U0 Q;rw[<- Q]at m1;clear Q;by_cases Z:1<=b.ep;rotate_left
 ·have n:=U0 (R.out (λh=>Z h.1.1));go_wp2;go_ret;exact⟨.inr ⟨cd,m,l,X5 n⟩,BW⟩
 go_wp2_with fail
 refine(c59 b.ed 0 1000 wo).mono ?_;rintro e V'⟨rfl,hw⟩;obtain rfl:=hw.symm;by_cases Y:0<=b.ed/\b.ed<=1000;rotate_left
 ·have n:=U0 (R.out (λh=>Y h.2.1));rw[o_ Y];go_wp2;go_ret;exact⟨.inr ⟨cd,m,l,X5 n⟩,BW⟩
 rw[X_ Y]
 go_wp2_with fail
 refine(c61 b.fs m.fs q.fa fa q.fc fc wo HL.out.fl (I8 HSM.out.fl Z5) (T.U5 L.out.fs BW) FW).mono ?_;rintro e w2⟨⟨H,rfl,g⟩,P⟩;have B2:=U0 (J5 BW P);have C2:=U0 (t.out.below P t.out.lt);have M2:=U0 (MW.out.below P MW.out.lt);have S2:=U0 (SW.out.below P);clear P a3 a4 a7 a8 a9 a10 I m1 m2 m3 m4 m5
 cases H with
 | false=>
  have n:=U0 (R.out (λh=>by have:=g.2 h.1.2.2.1;cases this));clear g;go_wp2;go_ret;exact⟨.inr ⟨cd,m,l,X5 n⟩,B2⟩
 | true=>
 have HFS:=U0 (g.1 rfl);clear g;have a8:=C2.out.cell 8;have a9:=C2.out.cell 9;have a10:=C2.out.cell 10;simp only[gz]at a8 a9 a10;have m3:=M2.out.cell 3;have m4:=M2.out.cell 4;have m5:=M2.out.cell 5;simp only[gz]at m3 m4 m5
 go_wp2_with fail
 refine(c62 b.s m.s q.ta q.ra ta ra q.tc q.rc tc rc w2 (GY HL.out.st) (a2f HSM) (L.out.st.below B2) S2).mono ?_;rintro e w3⟨⟨H,rfl,g⟩,hb3⟩;have B3:=U0 (J5 B2 hb3);have C3:=U0 (C2.out.below hb3 C2.out.lt);clear hb3 a8 a9 a10 m3 m4 m5
 cases H with
 | false=>
  have n:=U0 (R.out (λh=>by have:=g.2 h.1.2.2.2;cases this));clear g;go_wp2;go_ret;exact⟨.inr ⟨cd,m,l,X5 n⟩,B3⟩
 | true=>
 have HRM:Hid (nZ b m):=⟨Z,H5,HFS,g.1 rfl⟩;clear g;have I:=C3.out.cell 12;simp only[gz]at I;by_cases h8:b.rt.length<=10;rotate_left
 ·have n:=U0 (R.out (λh=>h8 h.2.2.1.1));have z:(10:Int)<b.rt.length:=O0;go_wp2;go_ret;exact⟨.inr ⟨cd,m,l,X5 n⟩,B3⟩
 have z:¬(10:Int)<b.rt.length:=O0
 go_upto_region 15 with fail
 clear I z;obtain⟨rb,ro,hcr⟩:=La L.out.rt;have HCR:=U0 hcr;have HOC:=U0 HCP.out.1;clear hcr;go_wp2;go_loopw[5] (λi wr=>∃k:Nat,k<=b.rt.length/\i=.int .i64 k/\Hid (∀j,j<k->X6 (b.rt.getD j ByteArray.empty).data.toList=true/\b.rt.getD j ByteArray.empty∉b.rt.take j)/\Below w3.heap.size w3 wr) (λi _=>b.rt.length-(RowKit.intOf i).toNat);exact⟨0,J4 _,rfl,λj h=>absurd h (y9 _),G5 _ _⟩;obtain⟨k,p,rfl,hd,f⟩:=hrel;have CZ:=U0 (C3.out.below f C3.out.lt);have BR:=U0 (J5 B3 f);have HBR:=U0 f;clear f;have I:=CZ.out.cell 12;simp only[gz]at I;by_cases O:k<b.rt.length;rotate_left
 ·obtain rfl:k=b.rt.length:=O0;have HRT:Hid (IJ b.rt):=⟨h8,hd⟩;obtain⟨ms,hpt⟩:=a2p b.fs;have HPT:=U0 hpt;clear hd hpt
  go_wp2_with(refine Vb rfl (d_ 47 _ rfl (B:=w.heap.size) (j:=0) (cs:=(bsV b q)) rfl (λq v e=>by rw[o9];exact(CZ.out.cell q).trans e) underlying47 rfl Y1) ?_)
  refine(c65 b q ms wr HL HPT (L.out.below BR)).mono ?_;rintro e w4⟨⟨H,rfl,g⟩,hb4⟩;have B4:=U0 (J5 BR hb4);have C4:=U0 (CZ.out.below hb4 CZ.out.lt);clear hb4 I
  cases H with
  | false=>
   have n:=U0 (R.out (λh=>by
    obtain⟨ms',Q,Z,_⟩:=h.2.2.2;obtain rfl:=G.VB Q HPT.out;have:=g.2 Z;cases this))
   clear g;go_wp2;go_ret;exact⟨.inr ⟨cd,m,l,X5 n⟩,B4⟩
  | true=>
  have HRN:=U0 (g.1 rfl);clear g
  go_wp2_with(refine xw rfl 47 _ rfl (B:=w.heap.size) rfl C4.out underlying47 rfl Y1 ?_)
  refine(c66 b q w4 HL h3 (L.out.below B4)).mono ?_;rintro e w5⟨⟨H,rfl,g⟩,hb5⟩;have B5:=U0 (J5 B4 hb5);have HE:Hid (H=true↔Pre b/\cd=0/\nP b m):=⟨λh=>HYE.out ⟨HRM,Y,HRT,ms,HPT,HRN,g.1 h⟩,λh=>g.2 (by
   rcases h.2.2 with⟨_,k⟩|⟨k,_⟩
   ·obtain⟨_,_,_,k⟩:=k.2.2.2;exact k
   rw[HUP.out]at k;cases k)⟩
  clear g hb5;go_wp2;go_ret;exact⟨.inr ⟨cd,m,l,_,rfl,HE⟩,B5⟩
 obtain⟨ha,hbw,hcell⟩:=Jd HCR.out O;have hvd:Bw wr wr.drew:=(G5 _ _).drew;have BD:=U0 (J5 BR hvd);have HX:=U0 ((BD.out.cell (by exact hbw)).trans (hcell k O));have hsz:=HL.out.rs k;have HD:Hid (X6 (b.rt.getD k ByteArray.empty).data.toList=true/\b.rt.getD k ByteArray.empty∉b.rt.take k->∀j,j<k+1->X6 (b.rt.getD j ByteArray.empty).data.toList=true/\b.rt.getD j ByteArray.empty∉b.rt.take j):=λW j hj=>by
  rcases D8 j k with h|h
  ·exact hd j h
  obtain rfl:j=k:=O0;exact W
 have E:Hid (¬(X6 (b.rt.getD k ByteArray.empty).data.toList=true/\b.rt.getD k ByteArray.empty∉b.rt.take k)->¬(Pre b/\cd=0/\nP b m)):=λW=>R.out (λh=>W (h.2.2.1.2 k O));have hcl:=λs=>G.c64 (some ⟨rb,ro,none⟩) q.oc (b.rt.take k) s wr.drew (by rw[qp p];omega) (UH p (U9 hbw BD.out.size) (λi hi=>(BD.out.cell (by exact hbw)).trans (hcell i hi)));simp only[qp p]at hcl;have HQ:=U0 hcl;rw[ha]at I;have HAq:=U0 ha;have hkc:k<=q.oc:=by have:=HOC.out;omega
 generalize b.rt.getD k ByteArray.empty=X at*;clear hcell hd hcl ha
 go_wp2_with fail
 refine wp_region_held_drew (S:=λu=>u.cell? ⟨w.heap.size,12,none⟩=some (vL (some ⟨rb,ro,none⟩) b.rt.length q.oc)/\u.cell? ⟨rb,ro+k,none⟩=some (vS X)) Y1 ⟨(CZ.out.below hvd CZ.out.lt).cell 12|>.trans (by rw[bsV,HAq.out];rfl),HX⟩ λhH=>?_;have hS:=U0 hH
 iterate 5 refine sq ?_
 refine rq 5 λK d=>?_;go_simp;refine(VO X wr.drew O0).mono ?_;rintro e w7⟨rfl,hw7⟩;obtain rfl:=hw7.symm
 go_wp2_with fail
 refine A8 d hS λhH=>?_;clear d K;by_cases hn:X6 X.data.toList=true;rotate_left
 ·have n:=U0 (E.out (λh=>hn h.1));rw[Ji.2 hn]
  iterate 13 refine sq ?_
  refine wdn ?_;go_wp2;go_ret;exact⟨.inr ⟨cd,m,l,X5 n⟩,BD⟩
 rw[hn]
 iterate 11 refine sq ?_
 refine rq 17 λK d=>?_;go_simp;refine(HQ X).mono ?_;rintro e w7⟨rfl,hw7⟩;obtain rfl:=hw7.symm
 go_wp2_with fail
 refine A8 d hS λhH=>?_;clear d K;by_cases hm:X∈b.rt.take k
 ·have n:=U0 (E.out (λh=>h.2 hm));rw[G.Gi.2 hm];refine sq ?_;refine wdn ?_;go_wp2;go_ret;exact⟨.inr ⟨cd,m,l,X5 n⟩,BD⟩
 have HD1:=U0 (HD.out ⟨hn,hm⟩);rw[Ji.2 (λh=>hm (G.Gi.1 h))];refine sq ?_;refine wdn ?_;go_wp2;go_roundw;exact⟨k+1,O0,by go_num,HD1,HBR.out.drew⟩;exact Z9
theorem h47(v1 v2:Value)(n m:Nat)(K:Int)(w:World)(h1:1<=K)(h2:K<=80000000000000)(c:n<=1048576)(hm:m<=1048576)(ho:Mf w 9 [mT] K v1 n)(hl:Mf w 9 [mT] (K+(n:Int)) v2 m):
 Calls prog 47 #[.agg #[v1,v2],.int .i64 K] w λe w'=>e=.returned (.int .i64 (K+(n:Int)+(m:Int)))/\Bw w w':=by
 have f:=U0 ho;have d:=U0 hl
 go_in
 go_upto_region 1 with fail
 have C:=U0 (X4 w [v1,v2] 37);have a:=U0 (Y6 (w:=w) (o:=.cells [v1,v2].toArray 37));generalize w.alloc (.cells [v1,v2].toArray 37)=V at*
 go_wp2_with(refine N8 C.out rfl _ _ rfl rfl rfl Y1 ?_)
 refine(h51 _ n K V h1 O0 c (f.out.below a)).mono ?_;rintro e V1⟨rfl,b⟩
 replace C:=U0 (C.out.below b C.out.lt)
 replace a:=U0 (J5 a b)
 have hp1:¬K+(n:Int)<0:=O0
 go_wp2_with(refine N8 C.out rfl _ _ rfl rfl rfl Y1 ?_)
 refine(h51 _ m _ V1 O0 O0 hm (d.out.below a)).mono ?_;rintro e V2⟨rfl,b⟩
 replace C:=U0 (C.out.below b C.out.lt)
 replace a:=U0 (J5 a b)
 have hp2:¬K+(n:Int)+(m:Int)<0:=O0;go_wp2;go_ret;exact⟨rfl,a⟩
theorem h48(v:Value)(n:Nat)(K:Int)(w:World)(h1:1<=K)(h2:K<=80000000000000)(c:n<=1048576)(ho:Mf w 67 [mT,mT] K v n):
 Calls prog 48 #[.agg #[v],.int .i64 K] w λe w'=>e=.returned (.int .i64 (K+2*(n:Int)))/\Bw w w':=by
 have d:=U0 ho
 go_in
 go_upto_region 1 with fail
 have C:=U0 (X4 w [v] 40);have a:=U0 (Y6 (w:=w) (o:=.cells [v].toArray 40));generalize w.alloc (.cells [v].toArray 40)=V at*
 go_wp2_with(refine N8 C.out rfl _ _ rfl rfl rfl Y1 ?_)
 refine(a5l _ n K V h1 O0 c (d.out.below a)).mono ?_;rintro e V1⟨rfl,b⟩
 replace C:=U0 (C.out.below b C.out.lt)
 replace a:=U0 (J5 a b)
 have hp1:¬K+2*(n:Int)<0:=O0;go_wp2;go_ret;exact⟨rfl,a⟩
theorem h49(tv rv:Value)(n k:Nat)(vr:List Value)(lr:List Nat)(wd K:Int)(w:World)(h1:1<=K)(h2:K<=40000000000000)(d:n<=1048576)(f:k<=1048576)(ho:Mf w 9 [mT] K tv n)(hl:MN w 162 3 1 213 [mB,mT,mT] 1 rE 2 3 (K+(n:Int)) rv k vr lr):
 Calls prog 49 #[.agg #[.int .i64 wd,tv,rv],.int .i64 K] w λe w'=>e=.returned (.int .i64 (kQ 2 3 lr (K+(n:Int)) k))/\Bw w w':=by
 have h:=U0 ho;have g:=U0 hl;have kr:=(au (c:=2) (e:=3) (K:=K+(n:Int)) hl.le k (J8 _)).1
 go_in
 go_upto_region 1 with fail
 have C:=U0 (X4 w [.int .i64 wd,tv,rv] 43);have a:=U0 (Y6 (w:=w) (o:=.cells [.int .i64 wd,tv,rv].toArray 43));generalize w.alloc (.cells [.int .i64 wd,tv,rv].toArray 43)=V at*
 go_wp2_with(refine N8 C.out rfl _ _ rfl rfl rfl Y1 ?_)
 refine(h51 _ n K V h1 O0 d (h.out.below a)).mono ?_;rintro e V1⟨rfl,b⟩
 replace C:=U0 (C.out.below b C.out.lt)
 replace a:=U0 (J5 a b)
 have hp1:¬K+(n:Int)<0:=O0
 go_wp2_with(refine N8 C.out rfl _ _ rfl rfl rfl Y1 ?_)
 refine(a3R _ k vr lr _ V1 O0 O0 f (g.out.below a)).mono ?_;rintro e V2⟨rfl,b⟩
 replace C:=U0 (C.out.below b C.out.lt)
 replace a:=U0 (J5 a b)
 have hp2:¬kQ 2 3 lr (K+(n:Int)) k<0:=O0;go_wp2;go_ret;exact⟨rfl,a⟩
theorem h10(b:Bs)(q:Ba)(vr:List Value)(lr:List Nat)(vn:List Value)(ln:List Nat)(w:World)(hl:Ug b 1048576)(ho:BM w b q vr lr vn ln):
 Calls prog 10 #[.agg (bsV b q).toArray,.int .i64 1] w λe w'=>e=.returned (.int .i64 (bX b lr ln))/\Bw w w':=by
 have n1:=hl.sl;have n2:=hl.ll;have n3:=hl.fl;have n4:=hl.st.1.1;have n5:=hl.st.2.1;have n6:=hl.hl;have n7:=hl.rl;have k:=hl.nl;have i:=hl.jl;have h:=au (c:=2) (e:=3) (K:=(1+(b.sf.length:Int)+(b.lo.length:Int)+2*(b.fs.length:Int)+(b.s.ts.length:Int))) ho.rs.le _ (J8 _);have g:=au (c:=5) (e:=4) (K:=((kQ 2 3 lr (1+(b.sf.length:Int)+(b.lo.length:Int)+2*(b.fs.length:Int)+(b.s.ts.length:Int)) b.s.rs.length)+(b.hd.length:Int)+(b.rt.length:Int))) ho.rn.le _ (J8 _)
 replace h:(1+(b.sf.length:Int)+(b.lo.length:Int)+2*(b.fs.length:Int)+(b.s.ts.length:Int))<=(kQ 2 3 lr (1+(b.sf.length:Int)+(b.lo.length:Int)+2*(b.fs.length:Int)+(b.s.ts.length:Int)) b.s.rs.length)/\(kQ 2 3 lr (1+(b.sf.length:Int)+(b.lo.length:Int)+2*(b.fs.length:Int)+(b.s.ts.length:Int)) b.s.rs.length)<=(1+(b.sf.length:Int)+(b.lo.length:Int)+2*(b.fs.length:Int)+(b.s.ts.length:Int))+3145730*(b.s.rs.length:Int):=h
 replace g:((kQ 2 3 lr (1+(b.sf.length:Int)+(b.lo.length:Int)+2*(b.fs.length:Int)+(b.s.ts.length:Int)) b.s.rs.length)+(b.hd.length:Int)+(b.rt.length:Int))<=(kQ 5 4 ln ((kQ 2 3 lr (1+(b.sf.length:Int)+(b.lo.length:Int)+2*(b.fs.length:Int)+(b.s.ts.length:Int)) b.s.rs.length)+(b.hd.length:Int)+(b.rt.length:Int)) b.rn.length)/\(kQ 5 4 ln ((kQ 2 3 lr (1+(b.sf.length:Int)+(b.lo.length:Int)+2*(b.fs.length:Int)+(b.s.ts.length:Int)) b.s.rs.length)+(b.hd.length:Int)+(b.rt.length:Int)) b.rn.length)<=((kQ 2 3 lr (1+(b.sf.length:Int)+(b.lo.length:Int)+2*(b.fs.length:Int)+(b.s.ts.length:Int)) b.s.rs.length)+(b.hd.length:Int)+(b.rt.length:Int))+4194309*(b.rn.length:Int):=g
 have f:=U0 ho
 go_in
 go_upto_region 1 with fail
 have C:=U0 (X4 w (bsV b q) 47);have a:=U0 (Y6 (w:=w) (o:=.cells (bsV b q).toArray 47));generalize w.alloc (.cells (bsV b q).toArray 47)=V at*
 go_wp2_with(first|(refine H8 C.out rfl 37 _ rfl (j:=5) [.slice q.sa b.sf.length q.sc,.slice q.la b.lo.length q.lc] rfl rfl underlying37 rfl Y1 ?_)|(refine N8 C.out rfl _ _ rfl rfl rfl Y1 ?_))
 refine(h47 _ _ b.sf.length b.lo.length 1 V O0 O0 n1 n2 (f.out.below a).sf (f.out.below a).lo).mono ?_;rintro e V1⟨rfl,d⟩
 replace C:=U0 (C.out.below d C.out.lt)
 replace a:=U0 (J5 a d)
 have hp1:¬1+(b.sf.length:Int)+(b.lo.length:Int)<0:=O0
 go_wp2_with(first|(refine H8 C.out rfl 40 _ rfl (j:=7) [.slice q.fa b.fs.length q.fc] rfl rfl underlying40 rfl Y1 ?_)|(refine N8 C.out rfl _ _ rfl rfl rfl Y1 ?_))
 refine(h48 _ b.fs.length _ V1 O0 O0 n3 (f.out.below a).fs).mono ?_;rintro e r⟨rfl,d⟩
 replace C:=U0 (C.out.below d C.out.lt)
 replace a:=U0 (J5 a d)
 have hp2:¬1+(b.sf.length:Int)+(b.lo.length:Int)+2*(b.fs.length:Int)<0:=O0
 go_wp2_with(first|(refine H8 C.out rfl 43 _ rfl (j:=8) [.int .i64 b.s.wd,.slice q.ta b.s.ts.length q.tc,.slice q.ra b.s.rs.length q.rc] rfl rfl underlying43 rfl Y1 ?_)|(refine N8 C.out rfl _ _ rfl rfl rfl Y1 ?_))
 refine(h49 _ _ b.s.ts.length b.s.rs.length vr lr b.s.wd _ r O0 O0 n4 n5 (f.out.below a).ts (f.out.below a).rs).mono ?_;rintro e p⟨rfl,d⟩
 replace C:=U0 (C.out.below d C.out.lt)
 replace a:=U0 (J5 a d)
 have hp3:¬kQ 2 3 lr (1+(b.sf.length:Int)+(b.lo.length:Int)+2*(b.fs.length:Int)+(b.s.ts.length:Int)) b.s.rs.length<0:=O0
 go_wp2_with(refine N8 C.out rfl _ _ rfl rfl rfl Y1 ?_)
 refine(h50 _ b.hd.length _ p O0 O0 n6 (f.out.below a).hd).mono ?_;rintro e n⟨rfl,d⟩
 replace C:=U0 (C.out.below d C.out.lt)
 replace a:=U0 (J5 a d)
 have hp4:¬(kQ 2 3 lr (1+(b.sf.length:Int)+(b.lo.length:Int)+2*(b.fs.length:Int)+(b.s.ts.length:Int)) b.s.rs.length)+(b.hd.length:Int)<0:=O0
 go_wp2_with(refine N8 C.out rfl _ _ rfl rfl rfl Y1 ?_)
 refine(h51 _ b.rt.length _ n O0 O0 n7 (f.out.below a).rt).mono ?_;rintro e m⟨rfl,d⟩
 replace C:=U0 (C.out.below d C.out.lt)
 replace a:=U0 (J5 a d)
 have hp5:¬(kQ 2 3 lr (1+(b.sf.length:Int)+(b.lo.length:Int)+2*(b.fs.length:Int)+(b.s.ts.length:Int)) b.s.rs.length)+(b.hd.length:Int)+(b.rt.length:Int)<0:=O0
 go_wp2_with(refine N8 C.out rfl _ _ rfl rfl rfl Y1 ?_)
 refine(h52 _ b.rn.length vn ln _ m O0 O0 k (f.out.below a).rn).mono ?_;rintro e l⟨rfl,d⟩
 replace C:=U0 (C.out.below d C.out.lt)
 replace a:=U0 (J5 a d)
 have hp6:¬kQ 5 4 ln ((kQ 2 3 lr (1+(b.sf.length:Int)+(b.lo.length:Int)+2*(b.fs.length:Int)+(b.s.ts.length:Int)) b.s.rs.length)+(b.hd.length:Int)+(b.rt.length:Int)) b.rn.length<0:=O0
 go_wp2_with(refine N8 C.out rfl _ _ rfl rfl rfl Y1 ?_)
 refine(h53 _ b.jb.length _ l O0 O0 i (f.out.below a).jb).mono ?_;rintro e V7⟨rfl,d⟩
 replace C:=U0 (C.out.below d C.out.lt)
 replace a:=U0 (J5 a d)
 have hp7:¬kQ 5 4 ln ((kQ 2 3 lr (1+(b.sf.length:Int)+(b.lo.length:Int)+2*(b.fs.length:Int)+(b.s.ts.length:Int)) b.s.rs.length)+(b.hd.length:Int)+(b.rt.length:Int)) b.rn.length+3*(b.jb.length:Int)<0:=O0;go_wp2;go_ret;exact⟨rfl,a⟩
theorem gU{β:Type}{E:α×Value->List Value}{d:α}{inn:α->List β}{f:β->List Value}{T TI mi:Nat}{is:List α}{vs0 vs:List Value}{v:Value}(h:YB E d inn f T m TI mi A is vs0 v is.length vs w)(y:∀p,(E p).length=m)(s:j<m)(hv:∀p,(E p)[j]?=some p.2)(hB:w.heap.size<=B)(r:∀i,(inn (is.getD i d)).length<=1048576):NR A B w T m j TI mi v is.length vs (is.map λx=>(inn x).length):=by
 have gl:∀i,i<is.length->(is.map λx=>(inn x).length).getD i 0=(inn (is.getD i d)).length:=λi b=>by simp[List.getD,b]
 refine⟨?_,λi b=>?_,λi b=>?_⟩
 ·rcases h.row.2 with⟨e,h0⟩|⟨g,cap,cur,e,u,k,q,_,t,ht⟩
  ·exact⟨none,0,by rw[e,h0],.inl h0⟩
  refine⟨_,cap,e,.inr ⟨g,cur.toList,rfl,u,Nat.lt_of_lt_of_le (Array.getElem?_eq_some_iff.1 k).1 hB,by unfold Cl;rw[k],?_,λi b=>?_⟩⟩
  ·have z:cur.toList.length=cap*m:=by rw[Zw,t]
   rw[z];exact Io _ q
  have n:=U9 (show i*m+j<(i+1)*m by rw[Tj];omega) (Io _ b);have l:=Wn (E:=E) (d:=d) (is:=is) (vs:=vs) y b s;rw[hv,<- ht,jA n]at l;exact l
 ·obtain⟨a,c,e,o⟩:=h.gl i b;rw[gl i b,e];exact own_rw o hB
 rw[gl i b];exact r i
theorem WX{fs:List T.F2}(h:T.qo A w a fs)(hB:w.heap.size<=B):Rw A B w 67 2 (.slice a fs.length c) fs.length:=by
 rcases h.2 with rfl|⟨g,rfl,b,⟨hl,hc,_⟩,cur,ht⟩
 ·exact⟨a,c,rfl,.inl rfl⟩
 by_cases h0:fs.length=0
 ·exact⟨_,c,rfl,.inl h0⟩
 have C:Cl w g 67 cur.toList:=by unfold Cl;rw[ht]
 refine⟨_,c,rfl,.inr ⟨g,cur.toList,rfl,b,U9 hl hB,C,?_⟩⟩;obtain⟨v,hv⟩:=hc (fs.length*2-1) (by omega);rw[C.cell]at hv;have:=(Zi.1 hv).1;omega
def lsR(b:Bs):List Nat:=b.s.rs.map λx=>x.gs.length
def lsN(b:Bs):List Nat:=b.rn.map λx=>(Rn.ls x).length
theorem a1S(h:nG A w b q)(hl:Ug b 1048576):∃vr vn,BW A w.heap.size w b q vr (lsR b) vn (lsN b)/\SS b q vr vn:=by
 obtain⟨vn,a⟩:=h.rn;obtain⟨vr,hr⟩:=h.st.2;have c:YB uJ h_ R3.gs wP 162 3 213 3 A b.s.rs vr (.slice q.ra b.s.rs.length q.rc) b.s.rs.length vr w:=⟨hr.len,hr.row,hr.gl,λ_ _=>rfl,hr.apart⟩;exact⟨vr,vn,⟨own_rw h.sf X7,own_rw h.lo X7,WX h.fs X7,own_rw h.st.1 X7,gU c (λ_=>rfl) (by decide) (λ_=>rfl) X7 (λi=>(hl.st.2.2 i).2.1),own_rw h.hd X7,own_rw h.rt X7,gU a (λ_=>rfl) (by decide) (λ_=>rfl) X7 (λi=>(hl.ns i).2.2.1.1),own_rw h.jb X7⟩,⟨h.n1,h.n2,h.n3,h.n4,h.n5,h.n6,hr.apart,a.apart⟩⟩
def lenV:Value->Nat
 | .slice _ n _=>n
 | _=>0
theorem uP{n cap:Nat}{t ti:TypeId}(h:UZ A B w a t n m j ti c)(hm:j<m):∃vs ls,NR A B w t m j ti c (.slice a n cap) n vs ls:=by
 obtain⟨g,rfl,hA,hB,⟨xs,hC,q⟩,d⟩:=h;refine⟨(List.range n).map λi=>(xs[i*m+j]?).getD undef,(List.range n).map λi=>lenV ((xs[i*m+j]?).getD undef),?_⟩;have l:∀i,i<n->((List.range n).map λi=>(xs[i*m+j]?).getD undef).getD i undef=(xs[i*m+j]?).getD undef:=λi d=>by simp[List.getD,d]
 have gl:∀i,i<n->((List.range n).map λi=>lenV ((xs[i*m+j]?).getD undef)).getD i 0=lenV ((xs[i*m+j]?).getD undef):=λi d=>by simp[List.getD,d]
 refine⟨⟨_,cap,rfl,.inr ⟨g,xs,rfl,hA,hB,hC,q,λi b=>?_⟩⟩,λi b=>?_,λi b=>?_⟩
 ·have hp:=U9 (show i*m+j<(i+1)*m by rw[Tj];omega) (Io _ b);rw[l i b,L9 (show i*m+j<xs.length by omega)];rfl
 ·obtain⟨r,p,o,e,k,f⟩:=d i b;rw[hC.cell]at e;rw[l i b,gl i b,e];exact(f.rw_ (c:=o)).mono (by omega) X7
 obtain⟨r,p,o,e,k,f⟩:=d i b;rw[hC.cell]at e;rw[gl i b,e];exact k
theorem a5b(h:BsO A B w b q):∃vr lr vn ln,BW A B w b q vr lr vn ln:=by
 obtain⟨vr,lr,hr⟩:=uP (cap:=q.rc) h.rs (by decide);obtain⟨vn,ln,e⟩:=uP (cap:=q.nc) h.rn (by decide);have d:∀{a:OA}{n c:Nat}{t:TypeId},Ow A B w a t n->Rw A B w t 1 (.slice a n c) n:=λk=>Ow.rw_ (by rw[Lm];exact k);exact⟨vr,lr,vn,ln,⟨d h.sf,d h.lo,h.fs.rw_,d h.ts,hr,d h.hd,d h.rt,e,h.jb.rw_⟩⟩
theorem BW.md{w':World}{vr vn:List Value}{lr ln:List Nat}(h:BW A B w b q vr lr vn ln)(k:Bw w w'):BW A B w' b q vr lr vn ln:=
 have m:=Md.of (A:=0) (B:=0) (S:=[]) k
 ⟨h.sf.md m,h.lo.md m,h.fs.md m,h.ts.md m,h.rs.md m Ho,h.hd.md m,h.rt.md m,h.rn.md m Ho,h.jb.md m⟩
theorem Si{l:List α}{d:α}{f:α->ByteArray}(h:∀i,i<l.length->0<i->Op.bytesLess (f (l.getD (i-1) d)).toList (f (l.getD i d)).toList=true):∀(j i:Nat),i<j->j<l.length->Op.bytesLess (f (l.getD i d)).toList (f (l.getD j d)).toList=true
 | 0,i,h1,_=>absurd h1 (y9 _)
 | j+1,i,h1,h2=>by
  have a:=h (j+1) h2 O0;rw[jJ]at a;by_cases e:i=j
  ·rw[e];exact a
  exact T.Dt _ _ _ (Si h j i O0 O0) a
theorem EQ{ms:List M3}(hr:dG ms b.rn):JbS b↔JbI b:=by
 have o:=Si (l:=b.rn) (d:=A_) (f:=λx=>x.nm) (λi a h0=>(hr i a).2.2 h0);constructor
 ·intro h i a;have p:=Si (l:=b.jb) (d:=ve) (f:=λx=>x.nm) (λi a h0=>(h i a).2.1 h0);obtain⟨⟨t,h1,h2,_,c⟩,_,k,r,q⟩:=h i a;refine⟨λm n ho=>?_,⟨t,h1,h2,c⟩,k,r⟩;rcases ho with ho|ho
  ·exact q m n ho
  rw[p i m n a]at ho;cases ho
 intro h i a;obtain⟨h1,⟨t,h2,c⟩,s,k⟩:=h i a;refine⟨⟨t,h2,c.1,λj g e=>?_,c.2⟩,λh0=>?_,s,k,λj g e=>h1 j g (.inl e)⟩
 ·have hl:=o t j g h2;rw[c.1,e]at hl;rw[T.Lp]at hl;cases hl
 cases hq:Op.bytesLess (b.jb.getD (i-1) ve).nm.toList (b.jb.getD i ve).nm.toList with
 | true=>rfl
 | false=>exact absurd (.inr hq) (h1 (i-1) O0)
