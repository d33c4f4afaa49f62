import Derived.Test.YtbgdfcmeheaiiaaGreatDoorwJ
import Derived.Test.YtbgdfcmeheaiiaaGreatDoorwE
import Derived.Test.YtbgdfcmeheaiiaaGreatDoorxG
import Derived.Test.YtbgdfcmeheaiiaaGreatDooryKYA
set_option linter.unusedVariables false
set_option linter.unusedSimpArgs false
set_option maxHeartbeats 8000000
set_option maxRecDepth 100000
namespace Go.Proofs.YtbgdfcmeheaiiaaGreatDoor
open Proofs.Tryz Go.RowKit
variable{α:Type}
theorem a1Z(fs:List T.F2):∃ms,G.Bg fs ms:=by
 by_cases ht:T.A_ fs;rotate_left
 ·exact⟨[],.inl ⟨ht,rfl⟩⟩
 by_cases hf:G.Free fs G.Ns
 ·exact⟨[],.inr (.inl ⟨ht,hf,rfl⟩)⟩
 obtain⟨i,b,g⟩:∃i,i<fs.length/\(fs.getD i T.P8).nm=G.Ns:=Classical.byContradiction λh=>hf λi b e=>h ⟨i,b,e⟩;obtain⟨a,ok,f⟩:∃a ok,G.n_ (fs.getD i T.P8).tx.data.toList a ok:=by
  by_cases h:∃js,G.Dc js=true/\js.flatMap G.z_=(fs.getD i T.P8).tx.data.toList/\(fs.getD i T.P8).tx.data.toList.length<=300
  ·obtain⟨js,h1,h2,d⟩:=h;exact⟨js,true,λ_=>⟨h1,h2,d⟩,λc=>by cases c⟩
  exact⟨[],false,(λc=>by cases c),λ_=>⟨rfl,λjs h1 h2=>Nat.lt_of_not_le λd=>h ⟨js,h1,h2,d⟩⟩⟩
 by_cases h:ok=true/\G.um fs a
 ·exact⟨a,.inr (.inr ⟨ht,i,b,g,a,ok,f,.inl ⟨h.1,h.2,rfl⟩⟩)⟩
 exact⟨[],.inr (.inr ⟨ht,i,b,g,a,ok,f,.inr ⟨h,rfl⟩⟩)⟩
def rV(b:Bs)(m:MS):Prop:=DY b m/\(0<=b.ed/\b.ed<=1000)/\JJ b.rt/\∃ms,G.Bg b.fs ms/\QE ms b.rn/\JbS b
def KO(b:Bs)(m:MS):Prop:=(b.up=true/\rV b m)\/(b.up=false/\kD b)
theorem c13(b:Bs)(q:Ba)(w:World)(hl:Bo b 1048576)(hsl:b.sf.length+b.lo.length<=1048576)(hcp:qO b q)(hat:Dn w b q):
 Calls prog 13 #[.agg (bsV b q).toArray] w λe w'=>((e=.returned (.bool false)/\¬(Pre b/\1<=b.wd/\b.wd<=8))\/∃cd m,Out RES (b.sf++b.lo) b.wd cd m/\Rb (Pre b/\cd=0/\KO b m) e)/\Bw w w':=by
 have L:=U0 hat;have HL:=U0 hl;have HCP:=U0 hcp;have hhl:=hl.hl;have hrl:=hl.rl;have HES:Hid (∀i,((b.sf++b.lo).getD i ByteArray.empty).size<=1048576):=λi=>by
  by_cases h:i<b.sf.length
  ·rw[show(b.sf++b.lo).getD i ByteArray.empty=b.sf.getD i ByteArray.empty by simp[List.getD,R_ h]];exact hl.ss i
  rw[show(b.sf++b.lo).getD i ByteArray.empty=b.lo.getD (i-b.sf.length) ByteArray.empty by simp[List.getD,rf (Vw h)]];exact hl.ls _
 clear hat hl hcp
 go_in
 go_upto_region 1 with fail
 have W:=U0 (U3 w (bsV b q) 53);have B0:=U0 (P6 (w:=w) (o:=.cells (bsV b q).toArray 53));generalize w.alloc (.cells (bsV b q).toArray 53)=V at*;have a0:=W.out.cell 0;have a2:=W.out.cell 2;have J:=W.out.cell 11;simp only[gz]at a0 a2 J
 go_wp2_with fail
 refine(IX b.wd V).mono ?_;rintro e V'⟨rfl,hw⟩;obtain rfl:=hw.symm;by_cases h1:1<=b.wd/\b.wd<=8;rotate_left
 ·have E:Hid (¬(Pre b/\1<=b.wd/\b.wd<=8)):=λh=>h1 h.2;rw[y9 h1];go_wp2;go_ret;exact⟨.inl ⟨rfl,E⟩,B0⟩
 rw[m_ h1]
 go_wp2_with fail
 refine(c15 b.hd.length 1 4 V).mono ?_;rintro e V'⟨rfl,hw⟩;obtain rfl:=hw.symm;by_cases h2:1<=b.hd.length/\b.hd.length<=4;rotate_left
 ·have E:Hid (¬(Pre b/\1<=b.wd/\b.wd<=8)):=λh=>h2 h.1.2.1;rw[show decide (1<=(b.hd.length:Int)/\(b.hd.length:Int)<=4)=false from y9 O0];go_wp2;go_ret;exact⟨.inl ⟨rfl,E⟩,B0⟩
 rw[show decide (1<=(b.hd.length:Int)/\(b.hd.length:Int)<=4)=true from m_ O0]
 go_wp2_with fail
 refine(c15 b.now 0 1000000 V).mono ?_;rintro e V'⟨rfl,hw⟩;obtain rfl:=hw.symm;by_cases h3:0<=b.now/\b.now<=1000000;rotate_left
 ·have E:Hid (¬(Pre b/\1<=b.wd/\b.wd<=8)):=λh=>h3 h.1.1;rw[y9 h3];go_wp2;go_ret;exact⟨.inl ⟨rfl,E⟩,B0⟩
 rw[m_ h3];clear a0 a2 J
 go_upto_region 3 with fail
 go_cut[3] from 4 (λs3 wx=>∃A cd m fa ta ra fc tc rc,s3=.pointer (some ⟨A,0,none⟩)/\Hid (MT RES w b q A cd m fa ta ra fc tc rc wx))
 case first=>
  have D:Hid (∀u,Bw V u->u.cell? ⟨w.heap.size,0,none⟩=some (vI b.wd)/\u.cell? ⟨w.heap.size,5,none⟩=some (vL q.sa b.sf.length q.sc)/\u.cell? ⟨w.heap.size,6,none⟩=some (vL q.la b.lo.length q.lc)):=λu hu=>have h:=W.out.below hu W.out.lt;⟨h.cell 0,h.cell 5,h.cell 6⟩
  have bd:Bw V V.drew:=(J4 _ _).drew;have HCA:Hid (∀u,Bw V u->Calls prog 40 #[.agg #[.slice q.sa b.sf.length q.sc,.slice q.la b.lo.length q.lc]] u λe w'=>(∃a c,e=.returned (vL a (b.sf++b.lo).length c)/\o8 w' a (b.sf++b.lo))/\Bw u w'):=λu hu=>c40 b.sf b.lo q.sa q.la q.sc q.lc u hsl (X5 L.out.sf (P5 B0 hu)) (X5 L.out.lo (P5 B0 hu));have HCB:Hid (∀u a c,Bw V u->o8 u a (b.sf++b.lo)->Calls prog 39 #[.slice a (b.sf.length+b.lo.length) c,.int .i64 b.wd] u λe w'=>(∃cd m fa fc ta tc ra rc,e=.returned (.agg #[vI cd,vI m.ep,vL fa m.fs.length fc,vI m.s.wd,vL ta m.s.ts.length tc,vL ra m.s.rs.length rc])/\Out RES (b.sf++b.lo) b.wd cd m/\Kp u.heap.size w' λu=>T.U5 u fa m.fs/\Ig u ta ra m.s)/\Bw u w'):=λu a c hu h=>by
   have hc:=a3J a c (b.sf++b.lo) b.wd u (by rw[L9];exact hsl) HES h;rw[L9]at hc;exact hc
  have HMK:Hid (∀(y z:World)(A:Nat)(cd:Int)(m:MS)(fa ta ra:OA)(fc tc rc:Nat),Bw V y->V.heap.size<=A->Wx A y z->Cl z A 117 [vI cd,vI m.ep,vL fa m.fs.length fc,vI m.s.wd,vL ta m.s.ts.length tc,vL ra m.s.rs.length rc]->Out RES (b.sf++b.lo) b.wd cd m->T.U5 z fa m.fs/\Ig z ta ra m.s->MT RES w b q A cd m fa ta ra fc tc rc z):=λy z A cd m fa ta ra fc tc rc h1 h2 h3 h4 R h6=>by
   have Z:=h1.trans (h3.below h2);exact⟨R,h4,W.out.below Z W.out.lt,h6.1,h6.2,P5 B0.out Z⟩
  refine FO D bd Y0 λhH=>?_;refine U8 0 ?_;refine U8 1 ?_;refine U8 3 ?_;refine U8 4 ?_;refine wpAnyH_ready (rs:=[2,6]) Y0 O4 (AllReadyH.cons (o:=⟨some 25,.call ⟨.value (.func 40),#[.tmp 24],#[43]⟩,22,_,_,none⟩) rfl (λK d=>?_) (AllReadyH.cons (o:=⟨some 3,.alloc 117,0,_,_,none⟩) rfl (λK d=>?_) AllReadyH.nil))
  ·go_simp;refine(HCA _ bd).mono ?_;rintro e y1⟨⟨a1,k1,rfl,h1⟩,f⟩;have F:=bd.trans f;have S1:=U0 h1;clear h1 f
   go_wp2_with fail
   refine X8 d (D _ F) λhH=>?_;clear d K;refine wpAnyH_ready (rs:=[5,6]) Y0 O4 (AllReadyH.cons (o:=⟨some 28,.call ⟨.value (.func 39),#[.tmp 25,.tmp 27],#[22,3]⟩,117,_,_,none⟩) rfl (λK d=>?_) (AllReadyH.cons (o:=⟨some 3,.alloc 117,0,_,_,none⟩) rfl (λK d=>?_) AllReadyH.nil))
   ·go_simp;refine(HCB y1 a1 k1 F S1).mono ?_;rintro e y2⟨⟨cd,m,fa,fc,ta,tc,ra,rc,rfl,ho,p⟩,f⟩;have x:=P5 F f;have l:=U0 ho;have HK:=U0 p;clear ho p f
    go_wp2_with fail
    refine X8 d (D _ x) λhH=>?_;clear d K;refine rq 6 λK d=>?_;go_simp;have N:=U0 (U3 y2 [vO,vO,vN,vO,vN,vN] 117);have b3:Bw V (y2.alloc (.cells #[vO,vO,vN,vO,vN,vN] 117)):=x.alloc x.size _;refine X8 d (D _ b3) λhH=>?_;clear d K;refine rq 7 λK d=>?_;refine Va rfl 117 _ _ rfl (j:=0) rfl rfl N Y8 (Ef rfl rfl rfl rfl rfl rfl) Y0 ?_;intro z cz C;have r:=U0 (HMK.out _ z y2.heap.size cd m fa ta ra fc tc rc b3 x.size C cz l (HK z (by have:=C.size;simp at this;omega) (λq _ hq=>(C.block q O0).trans (Lib.alloc_old y2 _ q hq))));refine X8 d (D _ (b3.trans (C.below x.size))) λhH=>?_;clear d K;refine wdn ?_
    go_wp2_with fail
    go_meet
    exact⟨_,_,_,_,_,_,_,_,_,rfl,r⟩
   go_simp;have N:=U0 (U3 y1 [vO,vO,vN,vO,vN,vN] 117);have x:Bw V (y1.alloc (.cells #[vO,vO,vN,vO,vN,vN] 117)):=F.alloc F.size _;have S2:=U0 (X5 S1 (P6 (w:=y1) (o:=.cells #[vO,vO,vN,vO,vN,vN] 117)));refine X8 d (D _ x) λhH=>?_;clear d K;refine rq 5 λK d=>?_;go_simp;refine(HCB _ a1 k1 x S2).mono ?_;rintro e y3⟨⟨cd,m,fa,fc,ta,tc,ra,rc,rfl,ho,p⟩,f⟩;have by3:=P5 x f;have l:=U0 ho;have HK:=U0 p;have a5q:=U0 (N.out.below f N.out.lt);have hAl:=U0 N.out.lt;clear ho p f
   go_wp2_with fail
   refine X8 d (D _ by3) λhH=>?_;clear d K;refine rq 7 λK d=>?_;refine Va rfl 117 _ _ rfl (j:=0) rfl rfl a5q Y8 (Ef rfl rfl rfl rfl rfl rfl) Y0 ?_;intro z cz C;have r:=U0 (HMK.out _ z y1.heap.size cd m fa ta ra fc tc rc by3 F.size C cz l (HK.out.on C hAl).now);refine X8 d (D _ (by3.trans (C.below F.size))) λhH=>?_;clear d K;refine wdn ?_
   go_wp2_with fail
   go_meet
   exact⟨_,_,_,_,_,_,_,_,_,rfl,r⟩
  go_simp;have CA0:=U0 (U3 V.drew [vO,vO,vN,vO,vN,vN] 117);have F:Bw V (V.drew.alloc (.cells #[vO,vO,vN,vO,vN,vN] 117)):=bd.alloc Y8 _;refine X8 d (D _ F) λhH=>?_;clear d K;refine rq 2 λK d=>?_;go_simp;refine(HCA _ F).mono ?_;rintro e y2⟨⟨a1,k1,rfl,h1⟩,f⟩;have x:=P5 F f;have N:=U0 (CA0.out.below f CA0.out.lt);have S1:=U0 h1;clear h1 f
  go_wp2_with fail
  refine X8 d (D _ x) λhH=>?_;clear d K;refine rq 5 λK d=>?_;go_simp;refine(HCB y2 a1 k1 x S1).mono ?_;rintro e y3⟨⟨cd,m,fa,fc,ta,tc,ra,rc,rfl,ho,p⟩,f⟩;have by3:=P5 x f;have l:=U0 ho;have HK:=U0 p;have a5q:=U0 (N.out.below f N.out.lt);have hAl:=U0 N.out.lt;clear ho p f
  go_wp2_with fail
  refine X8 d (D _ by3) λhH=>?_;clear d K;refine rq 7 λK d=>?_;refine Va rfl 117 _ _ rfl (j:=0) rfl rfl a5q Y8 (Ef rfl rfl rfl rfl rfl rfl) Y0 ?_;intro z cz C;have r:=U0 (HMK.out _ z V.drew.heap.size cd m fa ta ra fc tc rc by3 Y8 C cz l (HK.out.on C hAl).now);refine X8 d (D _ (by3.trans (C.below Y8))) λhH=>?_;clear d K;refine wdn ?_
  go_wp2_with fail
  go_meet
  exact⟨_,_,_,_,_,_,_,_,_,rfl,r⟩
 obtain⟨A,cd,m,fa,ta,ra,fc,tc,rc,rfl,r⟩:=hcut;have l:=U0 r.out.out;have CM:=U0 r.out.cm;have CB:=U0 r.out.cb;have BC:=U0 r.out.bel;have HF:=U0 r.out.fl;have HSt:=U0 r.out.st;have HSM:=U0 r.out.out.1;clear r W B0;have m0:=CM.out.cell 0;simp only[gz]at m0;by_cases hcd:cd=0;rotate_left
 ·have E:Hid (¬(Pre b/\cd=0/\KO b m)):=λh=>hcd h.2.1;go_wp2;go_ret;exact⟨.inr ⟨cd,m,l,I5 E⟩,BC⟩
 rw[hcd]at m0;have HCD:=U0 hcd;clear hcd;obtain⟨bb,off,hc⟩:=lg L.out.hd;have HC:=U0 hc;clear hc
 go_upto_region 6 with fail
 clear m0;go_wp2;go_loopw[4] (λi wr=>∃k:Nat,k<=b.hd.length/\i=.int .i64 k/\Hid (∀j,j<k-> -1<=b.hd.getD j 0/\b.hd.getD j 0<=b.now)/\Below wc.heap.size wc wr) (λi _=>b.hd.length-(RowKit.intOf i).toNat);exact⟨0,I4 _,rfl,λj h=>absurd h (U7 _),J4 _ _⟩;generalize wr=wo at*;obtain⟨k,p,rfl,hd,f⟩:=hrel;have t:=U0 (CB.out.below f CB.out.lt);have O:=U0 (P5 BC f);have MW:=U0 (CM.out.below f CM.out.lt);have FW:=U0 (T.X4 HF f);have SW:=U0 (HSt.out.below f);have HBW:=U0 f;clear f;have a2:=t.out.cell 2;have J:=t.out.cell 11;simp only[gz]at a2 J;by_cases P:k<b.hd.length
 ·obtain⟨ha,hbw,hcell⟩:=Zb HC.out P;rw[ha]at J;have HAq:=U0 ha;have g0:=(O.out.cell (by exact hbw)).trans (hcell k P);have HD:Hid (-1<=b.hd.getD k 0/\b.hd.getD k 0<=b.now->∀j,j<k+1-> -1<=b.hd.getD j 0/\b.hd.getD j 0<=b.now):=λY j hj=>by
   rcases P7 j k with h|h
   ·exact hd j h
   obtain rfl:j=k:=O0;exact Y
  have E:Hid (¬(-1<=b.hd.getD k 0/\b.hd.getD k 0<=b.now)->¬(Pre b/\cd=0/\KO b m)):=λY h=>Y (h.1.2.2 k P);generalize b.hd.getD k 0=X at*;clear hcell hd ha;by_cases hx:-1<=X/\X<=b.now
  ·have HD1:=U0 (HD.out hx);have H17:Hid (∀u,Calls prog 15 #[.int .i64 X,.int .i64 (-1),.int .i64 b.now] u λe w'=>e=.returned (.bool true)/\w'=u):=λu=>by
    have h:=c15 X (-1) b.now u;rw[m_ hx]at h;exact h
   go_wp2_with fail
   go_region_with(go_at_call 15;refine(H17.out _).mono ?_;rintro e w1⟨rfl,rfl⟩)
   all_goals go_wp2
   all_goals go_roundw
   all_goals first
    | exact⟨k+1,O0,by go_num,HD1,HBW.out.drew⟩
    | (exact P9)
  have n:=U0 (E.out hx);have H17:Hid (∀u,Calls prog 15 #[.int .i64 X,.int .i64 (-1),.int .i64 b.now] u λe w'=>e=.returned (.bool false)/\w'=u):=λu=>by
   have h:=c15 X (-1) b.now u;rw[y9 hx]at h;exact h
  go_wp2_with fail
  go_region_with(go_at_call 15;refine(H17.out _).mono ?_;rintro e w1⟨rfl,rfl⟩)
  all_goals go_wp2
  all_goals go_ret
  all_goals exact⟨.inr ⟨cd,m,l.out,I5 n.out⟩,O.out.drew⟩
 obtain rfl:k=b.hd.length:=O0;have HPR:Hid (Pre b):=⟨h3,h2,hd⟩;clear hd P p a2 J;have a1:=t.out.cell 1;have J:=t.out.cell 11;simp only[gz]at a1 J
 cases hup:b.up with
 | false=>
  rw[hup]at a1;have HUP:=U0 hup;clear hup
  go_wp2_with(refine b_ rfl (I7 53 _ rfl (B:=w.heap.size) (j:=0) (cs:=(bsV b q)) rfl (λq v e=>by rw[l7];exact(t.out.cell q).trans e) underlying53 rfl Y0) ?_)
  refine(c41 b q wo HL (L.out.below O)).mono ?_;rintro e w2⟨⟨H,rfl,g⟩,Q⟩;have HE:Hid (H=true↔Pre b/\cd=0/\KO b m):=⟨λh=>⟨HPR,HCD,.inr ⟨HUP,g.1 h⟩⟩,λh=>g.2 (by rcases h.2.2 with⟨k,_⟩|⟨_,k⟩;(rw[HUP.out]at k;cases k);exact k)⟩;have B2:=U0 (P5 O Q);clear g Q;go_wp2;go_ret;exact⟨.inr ⟨cd,m,l,_,rfl,HE⟩,B2⟩
 | true=>
 rw[hup]at a1;have HUP:=U0 hup;clear hup;have U:Hid (¬rV b m->¬(Pre b/\cd=0/\KO b m)):=λh k=>by
  rcases k.2.2 with⟨_,k⟩|⟨k,_⟩
  ·exact h k
  rw[HUP.out]at k;cases k
 have HYE:Hid (rV b m->Pre b/\cd=0/\KO b m):=λh=>⟨HPR,HCD,.inl ⟨HUP,h⟩⟩
 go_upto_region 13 with fail
 clear a1 J;have a3:=t.out.cell 3;have a4:=t.out.cell 4;have a7:=t.out.cell 7;have a8:=t.out.cell 8;have a9:=t.out.cell 9;have a10:=t.out.cell 10;have I:=t.out.cell 12;simp only[gz]at a3 a4 a7 a8 a9 a10 I;have m1:=MW.out.cell 1;have m2:=MW.out.cell 2;have m3:=MW.out.cell 3;have m4:=MW.out.cell 4;have m5:=MW.out.cell 5;simp only[gz]at m1 m2 m3 m4 m5;by_cases R:b.ep=m.ep;rotate_left
 ·have n:=U0 (U.out (λh=>R h.1.2.1));go_wp2;go_ret;exact⟨.inr ⟨cd,m,l,I5 n⟩,O⟩
 have H5:=U0 R;rw[<- R]at m1;clear R;by_cases h6:1<=b.ep;rotate_left
 ·have n:=U0 (U.out (λh=>h6 h.1.1));go_wp2;go_ret;exact⟨.inr ⟨cd,m,l,I5 n⟩,O⟩
 go_wp2_with fail
 refine(c15 b.ed 0 1000 wo).mono ?_;rintro e V'⟨rfl,hw⟩;obtain rfl:=hw.symm;by_cases Z:0<=b.ed/\b.ed<=1000;rotate_left
 ·have n:=U0 (U.out (λh=>Z h.2.1));rw[y9 Z];go_wp2;go_ret;exact⟨.inr ⟨cd,m,l,I5 n⟩,O⟩
 rw[m_ Z]
 go_wp2_with fail
 refine(c42 b.fs m.fs q.fa fa q.fc fc wo HL.out.fl (Q8 HSM.out.fl J6) (T.X4 L.out.fs O) FW).mono ?_;rintro e w2⟨⟨H,rfl,g⟩,Q⟩;have B2:=U0 (P5 O Q);have C2:=U0 (t.out.below Q t.out.lt);have M2:=U0 (MW.out.below Q MW.out.lt);have S2:=U0 (SW.out.below Q);clear Q a3 a4 a7 a8 a9 a10 I m1 m2 m3 m4 m5
 cases H with
 | false=>
  have n:=U0 (U.out (λh=>by have:=g.2 h.1.2.2.1;cases this));clear g;go_wp2;go_ret;exact⟨.inr ⟨cd,m,l,I5 n⟩,B2⟩
 | true=>
 have HFS:=U0 (g.1 rfl);clear g;have a8:=C2.out.cell 8;have a9:=C2.out.cell 9;have a10:=C2.out.cell 10;simp only[gz]at a8 a9 a10;have m3:=M2.out.cell 3;have m4:=M2.out.cell 4;have m5:=M2.out.cell 5;simp only[gz]at m3 m4 m5
 go_wp2_with fail
 refine(c43 b.s m.s q.ta q.ra ta ra q.tc q.rc tc rc w2 (qX HL.out.st) (a1x HSM) (L.out.st.below B2) S2).mono ?_;rintro e w3⟨⟨H,rfl,g⟩,hb3⟩;have B3:=U0 (P5 B2 hb3);have C3:=U0 (C2.out.below hb3 C2.out.lt);clear hb3 a8 a9 a10 m3 m4 m5
 cases H with
 | false=>
  have n:=U0 (U.out (λh=>by have:=g.2 h.1.2.2.2;cases this));clear g;go_wp2;go_ret;exact⟨.inr ⟨cd,m,l,I5 n⟩,B3⟩
 | true=>
 have HRM:Hid (DY b m):=⟨h6,H5,HFS,g.1 rfl⟩;clear g;have I:=C3.out.cell 12;simp only[gz]at I;by_cases h8:b.rt.length<=10;rotate_left
 ·have n:=U0 (U.out (λh=>h8 h.2.2.1.1));have z:(10:Int)<b.rt.length:=O0;go_wp2;go_ret;exact⟨.inr ⟨cd,m,l,I5 n⟩,B3⟩
 have z:¬(10:Int)<b.rt.length:=O0
 go_upto_region 15 with fail
 clear I z;obtain⟨rb,ro,hcr⟩:=O_ L.out.rt;have HCR:=U0 hcr;have HOC:=U0 HCP.out.1;clear hcr;go_wp2;go_loopw[5] (λi wr=>∃k:Nat,k<=b.rt.length/\i=.int .i64 k/\Hid (∀j,j<k->Y5 (b.rt.getD j ByteArray.empty).data.toList=true/\b.rt.getD j ByteArray.empty∉b.rt.take j)/\Below w3.heap.size w3 wr) (λi _=>b.rt.length-(RowKit.intOf i).toNat);exact⟨0,I4 _,rfl,λj h=>absurd h (U7 _),J4 _ _⟩;obtain⟨k,p,rfl,hd,f⟩:=hrel;have CZ:=U0 (C3.out.below f C3.out.lt);have BR:=U0 (P5 B3 f);have HBR:=U0 f;clear f;have I:=CZ.out.cell 12;simp only[gz]at I;by_cases P:k<b.rt.length;rotate_left
 ·obtain rfl:k=b.rt.length:=O0;have HRT:Hid (JJ b.rt):=⟨h8,hd⟩;obtain⟨ms,hpt⟩:=a1Z b.fs;have HPT:=U0 hpt;clear hd hpt
  go_wp2_with(refine b_ rfl (I7 53 _ rfl (B:=w.heap.size) (j:=0) (cs:=(bsV b q)) rfl (λq v e=>by rw[l7];exact(CZ.out.cell q).trans e) underlying53 rfl Y0) ?_)
  refine(c46 b q ms wr HL HPT (L.out.below BR)).mono ?_;rintro e w4⟨⟨H,rfl,g⟩,hb4⟩;have B4:=U0 (P5 BR hb4);have C4:=U0 (CZ.out.below hb4 CZ.out.lt);clear hb4 I
  cases H with
  | false=>
   have n:=U0 (U.out (λh=>by
    obtain⟨ms',R,h6,_⟩:=h.2.2.2;obtain rfl:=G.TA R HPT.out;have:=g.2 h6;cases this))
   clear g;go_wp2;go_ret;exact⟨.inr ⟨cd,m,l,I5 n⟩,B4⟩
  | true=>
  have HRN:=U0 (g.1 rfl);clear g
  go_wp2_with(refine mD rfl 53 _ rfl (B:=w.heap.size) rfl C4.out underlying53 rfl Y0 ?_)
  refine(c47 b q w4 HL h3 (L.out.below B4)).mono ?_;rintro e w5⟨⟨H,rfl,g⟩,hb5⟩;have B5:=U0 (P5 B4 hb5);have HE:Hid (H=true↔Pre b/\cd=0/\KO b m):=⟨λh=>HYE.out ⟨HRM,Z,HRT,ms,HPT,HRN,g.1 h⟩,λh=>g.2 (by
   rcases h.2.2 with⟨_,k⟩|⟨k,_⟩
   ·obtain⟨_,_,_,k⟩:=k.2.2.2;exact k
   rw[HUP.out]at k;cases k)⟩
  clear g hb5;go_wp2;go_ret;exact⟨.inr ⟨cd,m,l,_,rfl,HE⟩,B5⟩
 obtain⟨ha,hbw,hcell⟩:=Zb HCR.out P;have hvd:Bw wr wr.drew:=(J4 _ _).drew;have BD:=U0 (P5 BR hvd);have HX:=U0 ((BD.out.cell (by exact hbw)).trans (hcell k P));have hsz:=HL.out.rs k;have HD:Hid (Y5 (b.rt.getD k ByteArray.empty).data.toList=true/\b.rt.getD k ByteArray.empty∉b.rt.take k->∀j,j<k+1->Y5 (b.rt.getD j ByteArray.empty).data.toList=true/\b.rt.getD j ByteArray.empty∉b.rt.take j):=λY j hj=>by
  rcases P7 j k with h|h
  ·exact hd j h
  obtain rfl:j=k:=O0;exact Y
 have E:Hid (¬(Y5 (b.rt.getD k ByteArray.empty).data.toList=true/\b.rt.getD k ByteArray.empty∉b.rt.take k)->¬(Pre b/\cd=0/\KO b m)):=λY=>U.out (λh=>Y (h.2.2.1.2 k P));have hcl:=λs=>G.c45 (some ⟨rb,ro,none⟩) q.oc (b.rt.take k) s wr.drew (by rw[Xo p];omega) (kG p (G9 hbw BD.out.size) (λi hi=>(BD.out.cell (by exact hbw)).trans (hcell i hi)));simp only[Xo p]at hcl;have HQ:=U0 hcl;rw[ha]at I;have HAq:=U0 ha;have hkc:k<=q.oc:=by have:=HOC.out;omega
 generalize b.rt.getD k ByteArray.empty=X at*;clear hcell hd hcl ha
 go_wp2_with fail
 refine wp_region_held_drew (S:=λu=>u.cell? ⟨w.heap.size,12,none⟩=some (vL (some ⟨rb,ro,none⟩) b.rt.length q.oc)/\u.cell? ⟨rb,ro+k,none⟩=some (vS X)) Y0 ⟨(CZ.out.below hvd CZ.out.lt).cell 12|>.trans (by rw[bsV,HAq.out];rfl),HX⟩ λhH=>?_;have hS:=U0 hH
 iterate 5 refine sq ?_
 refine rq 5 λK d=>?_;go_simp;refine(EM X wr.drew O0).mono ?_;rintro e w7⟨rfl,hw7⟩;obtain rfl:=hw7.symm
 go_wp2_with fail
 refine X8 d hS λhH=>?_;clear d K;by_cases hn:Y5 X.data.toList=true;rotate_left
 ·have n:=U0 (E.out (λh=>hn h.1));rw[Pj.2 hn]
  iterate 13 refine sq ?_
  refine wdn ?_;go_wp2;go_ret;exact⟨.inr ⟨cd,m,l,I5 n⟩,BD⟩
 rw[hn]
 iterate 11 refine sq ?_
 refine rq 17 λK d=>?_;go_simp;refine(HQ X).mono ?_;rintro e w7⟨rfl,hw7⟩;obtain rfl:=hw7.symm
 go_wp2_with fail
 refine X8 d hS λhH=>?_;clear d K;by_cases hm:X∈b.rt.take k
 ·have n:=U0 (E.out (λh=>h.2 hm));rw[G.Rh.2 hm];refine sq ?_;refine wdn ?_;go_wp2;go_ret;exact⟨.inr ⟨cd,m,l,I5 n⟩,BD⟩
 have HD1:=U0 (HD.out ⟨hn,hm⟩);rw[Pj.2 (λh=>hm (G.Rh.1 h))];refine sq ?_;refine wdn ?_;go_wp2;go_roundw;exact⟨k+1,O0,by go_num,HD1,HBR.out.drew⟩;exact P9
open Go.ChangeShapes Go.WideShapes Go.ChangeAt Go.RowKit
theorem Gy:prog.cellsOf 100=3:=by kernel_rfl
theorem xG:prog.cellsOf 104=6:=by kernel_rfl
theorem jG:prog.cellsOf 106=16:=by kernel_rfl
theorem XH:prog.cellsOf 108=19:=by kernel_rfl
theorem SG:prog.cellsOf 110=3:=by kernel_rfl
theorem EH:prog.cellsOf 114=5:=by kernel_rfl
theorem BH:prog.cellsOf 241=8:=by kernel_rfl
theorem cells40:prog.cellsOf 40=20:=by kernel_rfl
theorem cells36:prog.cellsOf 36=1:=by kernel_rfl
theorem cells37:prog.cellsOf 37=1:=by kernel_rfl
theorem cells38:prog.cellsOf 38=1:=by kernel_rfl
theorem yU:prog.cellsOf 112=1:=by kernel_rfl
theorem a0i{l:List α}(h:l.length=5):∃c a1 a2 b a,l=[c,a1,a2,b,a]:=by
 match l,h with
 | [c,a1,a2,b,a],_=>exact⟨_,_,_,_,_,rfl⟩
theorem gZ{l:List α}(h:l.length=8):∃f a1 a2 e d c b a,l=[f,a1,a2,e,d,c,b,a]:=by
 match l,h with
 | [f,a1,a2,e,d,c,b,a],_=>exact⟨_,_,_,_,_,_,_,_,rfl⟩
theorem DV{l:List α}(h:l.length=16):∃p a1 a2 g f e d c b a o n m k j i,l=[p,a1,a2,g,f,e,d,c,b,a,o,n,m,k,j,i]:=by
 match l,h with
 | [p,a1,a2,g,f,e,d,c,b,a,o,n,m,k,j,i],_=>exact⟨_,_,_,_,_,_,_,_,_,_,_,_,_,_,_,_,rfl⟩
theorem CW{l:List α}(h:l.length=19):∃s a1 a2 g f e d c b a r q p o n m k j i,l=[s,a1,a2,g,f,e,d,c,b,a,r,q,p,o,n,m,k,j,i]:=by
 match l,h with
 | [s,a1,a2,g,f,e,d,c,b,a,r,q,p,o,n,m,k,j,i],_=>exact⟨_,_,_,_,_,_,_,_,_,_,_,_,_,_,_,_,_,_,_,rfl⟩
theorem oV{l:List α}(h:l.length=20):∃t a1 a2 g f e d c b a s r q p o n m k j i,l=[t,a1,a2,g,f,e,d,c,b,a,s,r,q,p,o,n,m,k,j,i]:=by
 match l,h with
 | [t,a1,a2,g,f,e,d,c,b,a,s,r,q,p,o,n,m,k,j,i],_=>exact⟨_,_,_,_,_,_,_,_,_,_,_,_,_,_,_,_,_,_,_,_,rfl⟩
section
variable{H:Type}{enc:TypeId×Value->H}{W:World}{fuel:Nat}{cs:List Value}{y:DataW H×List MemPlace}
theorem QA(h:Tr enc W fuel 100 cs y):∃x:M3,cs=[.string x.nm,.string x.tl,.string x.ar]/\x.le maxLen:=by
 obtain⟨n,hl,hf⟩:=y_ underlying100 h;rw[Gy]at hl;obtain⟨m,b,c2,rfl⟩:=Xv hl;obtain⟨e,h0⟩:=hf 0 _ rfl
 replace h0:Tr enc W n 9 (List.take (prog.cellsOf 9) [m,b,c2]) e:=h0
 rw[cells9]at h0;obtain⟨d,h1⟩:=hf 1 _ rfl
 replace h1:Tr enc W n 9 (List.take (prog.cellsOf 9) [b,c2]) d:=h1
 rw[cells9]at h1;obtain⟨c,h2⟩:=hf 2 _ rfl
 replace h2:Tr enc W n 9 (List.take (prog.cellsOf 9) [c2]) c:=h2
 rw[cells9]at h2;obtain⟨i,e0,_,l⟩:=uf underlying9 h0;simp at e0;subst e0;obtain⟨g,e1,_,k⟩:=uf underlying9 h1;simp at e1;subst e1;obtain⟨f,a,_,j⟩:=uf underlying9 h2;simp at a;subst a;exact⟨⟨i,g,f⟩,rfl,l,k,j⟩
theorem EJ(h:Tr enc W fuel 104 cs y):∃x:T6,cs=[.bool x.over,.int .i64 x.cd,.string x.tx,.bool x.has,.string x.nm,.int .i64 x.st]/\x.le maxLen:=by
 obtain⟨n,hl,hf⟩:=y_ underlying104 h;rw[xG]at hl;obtain⟨v,f,c2,c3,c4,c5,rfl⟩:=jS hl;obtain⟨l,h0⟩:=hf 0 _ rfl
 replace h0:Tr enc W n 4 (List.take (prog.cellsOf 4) [v,f,c2,c3,c4,c5]) l:=h0
 rw[cells4]at h0;obtain⟨k,h1⟩:=hf 1 _ rfl
 replace h1:Tr enc W n 102 (List.take (prog.cellsOf 102) [f,c2,c3,c4,c5]) k:=h1
 rw[Zk]at h1;obtain⟨j,h2⟩:=hf 2 _ rfl
 replace h2:Tr enc W n 4 (List.take (prog.cellsOf 4) [c3,c4,c5]) j:=h2
 rw[cells4]at h2;obtain⟨i,b⟩:=hf 3 _ rfl
 replace b:Tr enc W n 9 (List.take (prog.cellsOf 9) [c4,c5]) i:=b
 rw[cells9]at b;obtain⟨g,a⟩:=hf 4 _ rfl
 replace a:Tr enc W n 3 (List.take (prog.cellsOf 3) [c5]) g:=a
 rw[cells3]at a;obtain⟨r,e0,_⟩:=vw underlying4 h0;simp at e0;subst e0;obtain⟨s,m,e1,t⟩:=Dj h1;simp at e1;obtain⟨rfl,rfl⟩:=e1;obtain⟨q,e,_⟩:=vw underlying4 h2;simp at e;subst e;obtain⟨p,d,_,u⟩:=uf underlying9 b;simp at d;subst d;obtain⟨o,c,_,_⟩:=Vg underlying3 a;simp at c;subst c;exact⟨⟨r,s,m,q,p,o⟩,rfl,t,u⟩
theorem fM(h:Tr enc W fuel 106 cs y):∃x:mr,(∃v,cs=msE x v/\dK X6 W x.ls v)/\x.le maxLen:=by
 obtain⟨n,hl,hf⟩:=y_ underlying106 h;rw[jG]at hl;obtain⟨U,p,c2,c3,c4,c5,c6,c7,c8,c9,c10,c11,c12,c13,c14,c15,rfl⟩:=DV hl;obtain⟨B,h0⟩:=hf 0 _ rfl
 replace h0:Tr enc W n 3 (List.take (prog.cellsOf 3) [U,p,c2,c3,c4,c5,c6,c7,c8,c9,c10,c11,c12,c13,c14,c15]) B:=h0
 rw[cells3]at h0;obtain⟨A,h1⟩:=hf 1 _ rfl
 replace h1:Tr enc W n 3 (List.take (prog.cellsOf 3) [p,c2,c3,c4,c5,c6,c7,c8,c9,c10,c11,c12,c13,c14,c15]) A:=h1
 rw[cells3]at h1;obtain⟨z,h2⟩:=hf 2 _ rfl
 replace h2:Tr enc W n 3 (List.take (prog.cellsOf 3) [c2,c3,c4,c5,c6,c7,c8,c9,c10,c11,c12,c13,c14,c15]) z:=h2
 rw[cells3]at h2;obtain⟨w,f⟩:=hf 3 _ rfl
 replace f:Tr enc W n 3 (List.take (prog.cellsOf 3) [c3,c4,c5,c6,c7,c8,c9,c10,c11,c12,c13,c14,c15]) w:=f
 rw[cells3]at f;obtain⟨u,e⟩:=hf 4 _ rfl
 replace e:Tr enc W n 3 (List.take (prog.cellsOf 3) [c4,c5,c6,c7,c8,c9,c10,c11,c12,c13,c14,c15]) u:=e
 rw[cells3]at e;obtain⟨t,d⟩:=hf 5 _ rfl
 replace d:Tr enc W n 100 (List.take (prog.cellsOf 100) [c5,c6,c7,c8,c9,c10,c11,c12,c13,c14,c15]) t:=d
 rw[Gy]at d;obtain⟨s,c⟩:=hf 6 _ rfl
 replace c:Tr enc W n 101 (List.take (prog.cellsOf 101) [c8,c9,c10,c11,c12,c13,c14,c15]) s:=c
 rw[Ky]at c;obtain⟨r,b⟩:=hf 7 _ rfl
 replace b:Tr enc W n 3 (List.take (prog.cellsOf 3) [c9,c10,c11,c12,c13,c14,c15]) r:=b
 rw[cells3]at b;obtain⟨q,a⟩:=hf 8 _ rfl
 replace a:Tr enc W n 104 (List.take (prog.cellsOf 104) [c10,c11,c12,c13,c14,c15]) q:=a
 rw[xG]at a;obtain⟨I,e0,_,_⟩:=Vg underlying3 h0;simp at e0;subst e0;obtain⟨H,e1,_,_⟩:=Vg underlying3 h1;simp at e1;subst e1;obtain⟨F,o,_,_⟩:=Vg underlying3 h2;simp at o;subst o;obtain⟨E,m,_,_⟩:=Vg underlying3 f;simp at m;subst m;obtain⟨D,l,_,_⟩:=Vg underlying3 e;simp at l;subst l;obtain⟨J,k,Q⟩:=QA d;simp at k;obtain⟨rfl,rfl,rfl⟩:=k;obtain⟨N,L,K,j,R,P,S⟩:=zF c;simp at j;subst j;obtain⟨C,i,_,_⟩:=Vg underlying3 b;simp at i;subst i;obtain⟨tn,g,O⟩:=EJ a;simp at g;obtain⟨rfl,rfl,rfl,rfl,rfl,rfl⟩:=g;exact⟨⟨I,H,F,E,D,J,K,C,tn⟩,⟨_,rfl,N,L,rfl,S⟩,Q,⟨R,P⟩,O⟩
theorem EQ(h:Tr enc W fuel 108 cs y):∃x:Yz,(∃v,cs=eF (x,v)/\wkR W (x,v))/\x.le maxLen:=by
 obtain⟨n,hl,hf⟩:=y_ underlying108 h;rw[XH]at hl;obtain⟨p,d,c2,c3,c4,c5,c6,c7,c8,c9,c10,c11,c12,c13,c14,c15,c16,c17,c18,rfl⟩:=CW hl;obtain⟨j,h0⟩:=hf 0 _ rfl
 replace h0:Tr enc W n 3 (List.take (prog.cellsOf 3) [p,d,c2,c3,c4,c5,c6,c7,c8,c9,c10,c11,c12,c13,c14,c15,c16,c17,c18]) j:=h0
 rw[cells3]at h0;obtain⟨i,h1⟩:=hf 1 _ rfl
 replace h1:Tr enc W n 4 (List.take (prog.cellsOf 4) [d,c2,c3,c4,c5,c6,c7,c8,c9,c10,c11,c12,c13,c14,c15,c16,c17,c18]) i:=h1
 rw[cells4]at h1;obtain⟨f,h2⟩:=hf 2 _ rfl
 replace h2:Tr enc W n 4 (List.take (prog.cellsOf 4) [c2,c3,c4,c5,c6,c7,c8,c9,c10,c11,c12,c13,c14,c15,c16,c17,c18]) f:=h2
 rw[cells4]at h2;obtain⟨e,a⟩:=hf 3 _ rfl
 replace a:Tr enc W n 106 (List.take (prog.cellsOf 106) [c3,c4,c5,c6,c7,c8,c9,c10,c11,c12,c13,c14,c15,c16,c17,c18]) e:=a
 rw[jG]at a;obtain⟨m,e0,_,_⟩:=Vg underlying3 h0;simp at e0;subst e0;obtain⟨l,e1,_⟩:=vw underlying4 h1;simp at e1;subst e1;obtain⟨k,c,_⟩:=vw underlying4 h2;simp at c;subst c;obtain⟨g,⟨v,b,hv⟩,o⟩:=fM a;simp[msE]at b;obtain⟨rfl,rfl,rfl,rfl,rfl,rfl,rfl,rfl,rfl,rfl,rfl,rfl,rfl,rfl,rfl,rfl⟩:=b;exact⟨⟨m,l,k,g⟩,⟨_,rfl,hv⟩,o⟩
theorem iQ(h:Tr enc W fuel 110 cs y):∃x:Pc,cs=oD x/\x.le maxLen:=by
 obtain⟨n,hl,hf⟩:=y_ underlying110 h;rw[SG]at hl;obtain⟨l,b,c2,rfl⟩:=Xv hl;obtain⟨e,h0⟩:=hf 0 _ rfl
 replace h0:Tr enc W n 3 (List.take (prog.cellsOf 3) [l,b,c2]) e:=h0
 rw[cells3]at h0;obtain⟨d,h1⟩:=hf 1 _ rfl
 replace h1:Tr enc W n 9 (List.take (prog.cellsOf 9) [b,c2]) d:=h1
 rw[cells9]at h1;obtain⟨c,h2⟩:=hf 2 _ rfl
 replace h2:Tr enc W n 9 (List.take (prog.cellsOf 9) [c2]) c:=h2
 rw[cells9]at h2;obtain⟨i,e0,_,_⟩:=Vg underlying3 h0;simp at e0;subst e0;obtain⟨g,e1,_,k⟩:=uf underlying9 h1;simp at e1;subst e1;obtain⟨f,a,_,j⟩:=uf underlying9 h2;simp at a;subst a;exact⟨⟨i,g,f⟩,rfl,k,j⟩
theorem WS(h:Tr enc W fuel 241 cs y):∃x:Dd,(∃v,cs=CO (x,v)/\ddR W (x,v))/\x.le maxLen:=by
 obtain⟨n,hl,hf⟩:=y_ underlying241 h;rw[BH]at hl;obtain⟨E,f,c2,c3,c4,c5,c6,c7,rfl⟩:=gZ hl;obtain⟨l,h0⟩:=hf 0 _ rfl
 replace h0:Tr enc W n 9 (List.take (prog.cellsOf 9) [E,f,c2,c3,c4,c5,c6,c7]) l:=h0
 rw[cells9]at h0;obtain⟨k,h1⟩:=hf 1 _ rfl
 replace h1:Tr enc W n 4 (List.take (prog.cellsOf 4) [f,c2,c3,c4,c5,c6,c7]) k:=h1
 rw[cells4]at h1;obtain⟨j,h2⟩:=hf 2 _ rfl
 replace h2:Tr enc W n 100 (List.take (prog.cellsOf 100) [c2,c3,c4,c5,c6,c7]) j:=h2
 rw[Gy]at h2;obtain⟨i,b⟩:=hf 3 _ rfl
 replace b:Tr enc W n 101 (List.take (prog.cellsOf 101) [c5,c6,c7]) i:=b
 rw[Ky]at b;obtain⟨g,a⟩:=hf 4 _ rfl
 replace a:Tr enc W n 102 (List.take (prog.cellsOf 102) [c6,c7]) g:=a
 rw[Zk]at a;obtain⟨p,e0,_,z⟩:=uf underlying9 h0;simp at e0;subst e0;obtain⟨o,e1,_⟩:=vw underlying4 h1;simp at e1;subst e1;obtain⟨r,e,B⟩:=QA h2;simp at e;obtain⟨rfl,rfl,rfl⟩:=e;obtain⟨u,t,s,d,C,A,D⟩:=zF b;simp at d;subst d;obtain⟨q,m,c,w⟩:=Dj a;simp at c;obtain⟨rfl,rfl⟩:=c;exact⟨⟨p,o,r,s,q,m⟩,⟨_,rfl,u,t,rfl,D⟩,z,B,⟨C,A⟩,w⟩
theorem gW(h:Tr enc W fuel 36 cs y):∃a c is,cs=[.slice a is.length c]/\is.length<=maxLen/\(∀i,(is.getD i Vf).le maxLen)/\a5g W a is:=by
 obtain⟨a,c,is,e,hl,hr,h⟩:=Tf Vf (α:=Yz) underlying36 XH (by decide) (λcs x=>∃v,cs=eF (x,v)/\wkR W (x,v)) (λx=>x.le maxLen) (nY _) (λ_ _ _ h=>EQ h) h;refine⟨a,c,is,e,hl,hr,?_⟩;rcases h with h|⟨b,off,h1,h2,f⟩
 ·exact .inl h
 refine .inr ⟨b,off,h1,h2,λi d=>?_⟩;obtain⟨_,⟨v,rfl,hv⟩,h⟩:=f i d;exact⟨v,h,hv⟩
theorem KX(h:Tr enc W fuel 112 cs y):∃a c is,cs=[.slice a is.length c]/\is.length<=maxLen/\(∀i,(is.getD i IB).le maxLen)/\a5f W a is:=by
 obtain⟨a,c,is,e,hl,hr,h⟩:=Tf IB (α:=Dd) underlying112 BH (by decide) (λcs x=>∃v,cs=CO (x,v)/\ddR W (x,v)) (λx=>x.le maxLen) (a0x _) (λ_ _ _ h=>WS h) h;refine⟨a,c,is,e,hl,hr,?_⟩;rcases h with h|⟨b,off,h1,h2,f⟩
 ·exact .inl h
 refine .inr ⟨b,off,h1,h2,λi d=>?_⟩;obtain⟨_,⟨v,rfl,hv⟩,h⟩:=f i d;exact⟨v,h,hv⟩
theorem dW(h:Tr enc W fuel 37 cs y):∃a c is,cs=[.slice a is.length c]/\is.length<=maxLen/\(∀i,(is.getD i Vu).le maxLen)/\Qq W a is:=by
 obtain⟨a,c,is,e,hl,hr,h⟩:=Tf Vu (α:=Pc) underlying37 SG (by decide) (λcs x=>cs=oD x) (λx=>x.le maxLen) (a2a _) (λ_ _ _ h=>iQ h) h;refine⟨a,c,is,e,hl,hr,?_⟩;rcases h with h|⟨b,off,h1,h2,f⟩
 ·exact .inl h
 refine .inr ⟨b,off,h1,h2,λi d=>?_⟩;obtain⟨_,rfl,h⟩:=f i d;exact h
theorem PO(h:Tr enc W fuel 114 cs y):∃x:An,(∃v,cs=qN (x,v)/\anR W (x,v))/\x.le maxLen:=by
 obtain⟨n,hl,hf⟩:=y_ underlying114 h;rw[EH]at hl;obtain⟨B,d,c2,c3,c4,rfl⟩:=a0i hl;obtain⟨i,h0⟩:=hf 0 _ rfl
 replace h0:Tr enc W n 9 (List.take (prog.cellsOf 9) [B,d,c2,c3,c4]) i:=h0
 rw[cells9]at h0;obtain⟨g,h1⟩:=hf 1 _ rfl
 replace h1:Tr enc W n 27 (List.take (prog.cellsOf 27) [d,c2,c3,c4]) g:=h1
 rw[cells27]at h1;obtain⟨f,h2⟩:=hf 2 _ rfl
 replace h2:Tr enc W n 102 (List.take (prog.cellsOf 102) [c2,c3,c4]) f:=h2
 rw[Zk]at h2;obtain⟨e,a⟩:=hf 3 _ rfl
 replace a:Tr enc W n 112 (List.take (prog.cellsOf 112) [c4]) e:=a
 rw[yU]at a;obtain⟨j,e0,_,p⟩:=uf underlying9 h0;simp at e0;subst e0;obtain⟨a1,m,z,e1,t,r,w⟩:=wB h1;simp at e1;subst e1;obtain⟨k,t2,c,o⟩:=Dj h2;simp at c;obtain⟨rfl,rfl⟩:=c;obtain⟨C,l,A,b,s,q,u⟩:=KX a;simp at b;subst b;exact⟨⟨j,z,k,t2,A⟩,⟨(_,_),rfl,⟨a1,m,rfl,w⟩,C,l,rfl,u⟩,p,⟨t,r⟩,o,s,q⟩
theorem VX(h:Tr enc W fuel 38 cs y):∃a c is,cs=[.slice a is.length c]/\is.length<=maxLen/\(∀i,(is.getD i AB).le maxLen)/\AnsAt W a is:=by
 obtain⟨a,c,is,e,hl,hr,h⟩:=Tf AB (α:=An) underlying38 EH (by decide) (λcs x=>∃v,cs=qN (x,v)/\anR W (x,v)) (λx=>x.le maxLen) (a2c _) (λ_ _ _ h=>PO h) h;refine⟨a,c,is,e,hl,hr,?_⟩;rcases h with h|⟨b,off,h1,h2,f⟩
 ·exact .inl h
 refine .inr ⟨b,off,h1,h2,λi d=>?_⟩;obtain⟨_,⟨v,rfl,hv⟩,h⟩:=f i d;exact⟨v,h,hv⟩
theorem qR(h:Tr enc W fuel 40 cs y):∃x q,cs=wdV x q/\SB x maxLen/\Qx W x q:=by
 obtain⟨n,hl,hf⟩:=y_ underlying40 h;rw[cells40]at hl;obtain⟨R,j,c2,c3,c4,c5,c6,c7,c8,c9,c10,c11,c12,c13,c14,c15,c16,c17,c18,c19,rfl⟩:=oV hl;obtain⟨r,h0⟩:=hf 0 _ rfl
 replace h0:Tr enc W n 9 (List.take (prog.cellsOf 9) [R,j,c2,c3,c4,c5,c6,c7,c8,c9,c10,c11,c12,c13,c14,c15,c16,c17,c18,c19]) r:=h0
 rw[cells9]at h0;obtain⟨p,h1⟩:=hf 1 _ rfl
 replace h1:Tr enc W n 35 (List.take (prog.cellsOf 35) [j,c2,c3,c4,c5,c6,c7,c8,c9,c10,c11,c12,c13,c14,c15,c16,c17,c18,c19]) p:=h1
 rw[cells35]at h1;obtain⟨o,h2⟩:=hf 2 _ rfl
 replace h2:Tr enc W n 36 (List.take (prog.cellsOf 36) [c16,c17,c18,c19]) o:=h2
 rw[cells36]at h2;obtain⟨m,d⟩:=hf 3 _ rfl
 replace d:Tr enc W n 37 (List.take (prog.cellsOf 37) [c17,c18,c19]) m:=d
 rw[cells37]at d;obtain⟨l,c⟩:=hf 4 _ rfl
 replace c:Tr enc W n 9 (List.take (prog.cellsOf 9) [c18,c19]) l:=c
 rw[cells9]at c;obtain⟨k,a⟩:=hf 5 _ rfl
 replace a:Tr enc W n 38 (List.take (prog.cellsOf 38) [c19]) k:=a
 rw[cells38]at a;obtain⟨t,e0,_,D⟩:=uf underlying9 h0;simp at e0;subst e0;obtain⟨b,q,e1,N,L⟩:=oU h1;simp[bsV]at e1;obtain⟨rfl,rfl,rfl,rfl,rfl,rfl,rfl,rfl,rfl,rfl,rfl,rfl,rfl,rfl,rfl⟩:=e1;obtain⟨a2,B,w,i,K,H,Q⟩:=gW h2;simp at i;subst i;obtain⟨U,A,v,g,J,F,P⟩:=dW d;simp at g;subst g;obtain⟨s,f,_,C⟩:=uf underlying9 c;simp at f;subst f;obtain⟨S,z,u,e,I,E,O⟩:=VX a;simp at e;subst e;exact⟨⟨t,b,w,v,s,u⟩,⟨q,a2,B,U,A,S,z⟩,rfl,⟨D,N,K,H,J,F,C,I,E⟩,L,Q,P,O⟩
end
end Go.Proofs.YtbgdfcmeheaiiaaGreatDoor
namespace Go.Proofs.YtbgdfcmeheaiiaaGreatDoor
open Proofs.Tryz Go.RowKit
theorem Vh{α:Type}{l:List α}{d:α}{f:α->ByteArray}(h:∀i,i<l.length->0<i->Op.bytesLess (f (l.getD (i-1) d)).toList (f (l.getD i d)).toList=true):∀(j i:Nat),i<j->j<l.length->Op.bytesLess (f (l.getD i d)).toList (f (l.getD j d)).toList=true
 | 0,i,h1,_=>absurd h1 (U7 _)
 | j+1,i,h1,h2=>by
  have a:=h (j+1) h2 O0;rw[dJ]at a;by_cases e:i=j
  ·rw[e];exact a
  exact T.Vr _ _ _ (Vh h j i O0 O0) a
theorem DU{b:Bs}{ms:List M3}(hr:QE ms b.rn):JbS b↔JbI b:=by
 have o:=Vh (l:=b.rn) (d:=Aa) (f:=λx=>x.nm) (λi a h0=>(hr i a).2.2 h0);constructor
 ·intro h i a;have p:=Vh (l:=b.jb) (d:=Zd) (f:=λx=>x.nm) (λi a h0=>(h i a).2.1 h0);obtain⟨⟨t,h1,h2,_,c⟩,_,k,r,q⟩:=h i a;refine⟨λm n ho=>?_,⟨t,h1,h2,c⟩,k,r⟩;rcases ho with ho|ho
  ·exact q m n ho
  rw[p i m n a]at ho;cases ho
 intro h i a;obtain⟨h1,⟨t,h2,c⟩,s,k⟩:=h i a;refine⟨⟨t,h2,c.1,λj g e=>?_,c.2⟩,λh0=>?_,s,k,λj g e=>h1 j g (.inl e)⟩
 ·have hl:=o t j g h2;rw[c.1,e]at hl;rw[T.Jo]at hl;cases hl
 cases hq:Op.bytesLess (b.jb.getD (i-1) Zd).nm.toList (b.jb.getD i Zd).nm.toList with
 | true=>rfl
 | false=>exact absurd (.inr hq) (h1 (i-1) O0)
theorem ZC(x:mr):Ak x.tw x.fr x.ep x.ed x.km.nm x.km.tl x.km.ar x.ct x.tn.over x.tn.cd x.tn.tx x.tn.has x.tn.nm x.tn.st 0 0 0 0 ⟨#[]⟩ ⟨#[]⟩ ⟨#[]⟩ 0 false 0 ⟨#[]⟩ false ⟨#[]⟩ 0 x.ls.length 0↔(x.tw=0/\x.fr=0/\x.ep=0/\x.ed=0/\x.km.nm=⟨#[]⟩/\x.km.tl=⟨#[]⟩/\x.km.ar=⟨#[]⟩/\x.ls.length=0/\x.ct=0/\x.tn.over=false/\x.tn.cd=0/\x.tn.tx=⟨#[]⟩/\x.tn.has=false/\x.tn.nm=⟨#[]⟩/\x.tn.st=0):=Iff.rfl
theorem c48(x:mr)(f:OA)(d:Nat)(w:World)(hl:x.ls.length<=1048576):
 Calls prog 48 #[.agg #[.int .i64 x.kd,.int .i64 x.tw,.int .i64 x.fr,.int .i64 x.ep,.int .i64 x.ed,.string x.km.nm,.string x.km.tl,.string x.km.ar,.slice f x.ls.length d,.int .i64 x.ct,.bool x.tn.over,.int .i64 x.tn.cd,.string x.tn.tx,.bool x.tn.has,.string x.tn.nm,.int .i64 x.tn.st]] w λe w'=>Ia (Qj x) e/\Bw w w':=by
 have b:∀o,Bw w (w.alloc o):=λo=>(J4 _ _).alloc (J9 _) _;obtain⟨kd,tw,fr,ep,ed,km,ls,ct,tn⟩:=x;rcases(f_ (kd=0)).symm with e1|e1
 ·have k:Hid (Ia (Qj ⟨kd,tw,fr,ep,ed,km,ls,ct,tn⟩) (.returned (.bool false))):=Z5 (λh=>e1 h.1)
  go_in
  go_wp2
  all_goals go_ret
  all_goals exact⟨k.out,b _⟩
 obtain rfl:=e1;have c:=λu=>c97 0 tw fr ep ed ct tn.cd tn.st km.nm km.tl km.ar tn.tx tn.nm tn.over tn.has 0 0 0 0 0 0 0 0 ⟨#[]⟩ ⟨#[]⟩ ⟨#[]⟩ ⟨#[]⟩ ⟨#[]⟩ false false f none ls.length 0 d 0 u hl (I4 _)
 go_in
 go_wp2_with fail
 refine(c _).mono ?_;rintro e g⟨⟨r,rfl,hr⟩,a⟩;have i:Bw w g:=(b _).trans (a.mono (by simp));have j:Hid (r=true↔Qj ⟨0,tw,fr,ep,ed,km,ls,ct,tn⟩):=hr.trans ⟨λh=>⟨rfl,(ZC ⟨0,tw,fr,ep,ed,km,ls,ct,tn⟩).1 h⟩,λh=>(ZC ⟨0,tw,fr,ep,ed,km,ls,ct,tn⟩).2 h.2⟩;clear hr a c;go_wp2;go_ret;exact⟨⟨r,rfl,j.out⟩,i⟩
theorem sU(x:mr):(Y2 (Jr x)).toList.isEmpty=false:=by
 have:(Y2 (Jr x)).toList=Jr x:=by rw[ByteArray.toList_eq];rfl
 rw[this];rfl
theorem c14(x:Yz)(g:OA)(m:Nat)(w:World)(k:x.of.le 1048576)(t:X6 w g x.of.ls):
 Calls prog 14 #[.agg #[.int .i64 x.no,.bool x.up,.bool x.has,.int .i64 x.of.kd,.int .i64 x.of.tw,.int .i64 x.of.fr,.int .i64 x.of.ep,.int .i64 x.of.ed,.string x.of.km.nm,.string x.of.km.tl,.string x.of.km.ar,.slice g x.of.ls.length m,.int .i64 x.of.ct,.bool x.of.tn.over,.int .i64 x.of.tn.cd,.string x.of.tn.tx,.bool x.of.tn.has,.string x.of.tn.nm,.int .i64 x.of.tn.st]] w λe w'=>Ia (En x) e/\Bw w w':=by
 have b:∀o,Bw w (w.alloc o):=λo=>(J4 _ _).alloc (J9 _) _;have z:Hid (X6 w g x.of.ls):=t;have hl:x.of.ls.length<=1048576:=k.2.1.1;have v:Hid (x.of.le 1048576):=k;clear t k;obtain⟨no,up,has,⟨kd,tw,fr,ep,ed,km,ls,ct,tn⟩⟩:=x;cases h1:decide (1<=no/\no<=4)
 ·have a:Hid (Ia (En ⟨no,up,has,⟨kd,tw,fr,ep,ed,km,ls,ct,tn⟩⟩) (.returned (.bool false))):=Z5 (λh=>yA h1 h.1)
  go_in
  go_wp2_with fail
  refine(c15 no 1 4 _).mono ?_;rintro e d⟨rfl,hw⟩;obtain rfl:=hw.symm;rw[h1];go_wp2;go_ret;exact⟨a.out,b _⟩
 cases has
 ·have c:Hid (En ⟨no,up,false,⟨kd,tw,fr,ep,ed,km,ls,ct,tn⟩⟩↔Qj ⟨kd,tw,fr,ep,ed,km,ls,ct,tn⟩):=by
   constructor
   ·rintro⟨_,⟨h,_⟩|⟨_,h⟩⟩
    ·cases h
    exact h
   exact λh=>⟨Wn h1,.inr ⟨rfl,h⟩⟩
  go_in
  go_wp2_with fail
  refine(c15 no 1 4 _).mono ?_;rintro e d⟨rfl,hw⟩;obtain rfl:=hw.symm;rw[h1]
  go_wp2_with fail
  refine(c48 ⟨kd,tw,fr,ep,ed,km,ls,ct,tn⟩ g m _ hl).mono ?_;rintro e j⟨⟨r,rfl,hr⟩,f⟩;have i:Bw w j:=(b _).trans (f.mono (by simp));have y:Hid (r=true↔En ⟨no,up,false,⟨kd,tw,fr,ep,ed,km,ls,ct,tn⟩⟩):=hr.trans c.out.symm;clear hr f;go_wp2;go_ret;exact⟨⟨r,rfl,y.out⟩,i⟩
 cases up
 ·have a:Hid (Ia (En ⟨no,false,true,⟨kd,tw,fr,ep,ed,km,ls,ct,tn⟩⟩) (.returned (.bool false))):=Z5 (λh=>by
   rcases h.2 with⟨_,h,_⟩|⟨h,_⟩
   ·cases h
   cases h)
  go_in
  go_wp2_with fail
  refine(c15 no 1 4 _).mono ?_;rintro e d⟨rfl,hw⟩;obtain rfl:=hw.symm;rw[h1];go_wp2;go_ret;exact⟨a.out,b _⟩
 have c:Hid (En ⟨no,true,true,⟨kd,tw,fr,ep,ed,km,ls,ct,tn⟩⟩↔Om no ⟨kd,tw,fr,ep,ed,km,ls,ct,tn⟩):=by
  constructor
  ·rintro⟨_,⟨_,_,h⟩|⟨h,_⟩⟩
   ·exact h
   cases h
  exact λh=>⟨Wn h1,.inl ⟨rfl,rfl,h⟩⟩
 rcases(f_ (kd=1)).symm with e1|e1
 ·have a:Hid (Ia (En ⟨no,true,true,⟨kd,tw,fr,ep,ed,km,ls,ct,tn⟩⟩) (.returned (.bool false))):=Z5 (λh=>e1 (c.out.1 h).1)
  go_in
  go_wp2_with fail
  refine(c15 no 1 4 _).mono ?_;rintro e d⟨rfl,hw⟩;obtain rfl:=hw.symm;rw[h1];go_wp2
  all_goals go_ret
  all_goals exact⟨a.out,b _⟩
 obtain rfl:=e1;rcases(f_ (tw=no)).symm with l|l
 ·have a:Hid (Ia (En ⟨no,true,true,⟨1,tw,fr,ep,ed,km,ls,ct,tn⟩⟩) (.returned (.bool false))):=Z5 (λh=>l (c.out.1 h).2.1)
  go_in
  go_wp2_with fail
  refine(c15 no 1 4 _).mono ?_;rintro e d⟨rfl,hw⟩;obtain rfl:=hw.symm;rw[h1];go_wp2
  all_goals go_ret
  all_goals exact⟨a.out,b _⟩
 obtain rfl:=l
 go_in
 go_wp2_with fail
 refine(c15 tw 1 4 _).mono ?_;rintro e d⟨rfl,hw⟩;obtain rfl:=hw.symm;rw[h1]
 go_wp2_with fail
 refine(c49 ⟨1,tw,fr,ep,ed,km,ls,ct,tn⟩ g m _ v.out (Z4 z.out (b _))).mono ?_;rintro e j⟨⟨s,rfl,hr⟩,f⟩;have i:Bw w j:=(b _).trans (f.mono (by simp));clear f;rcases hr with⟨n,rfl⟩|⟨p,rfl⟩
 ·have u:Hid (Ia (En ⟨tw,true,true,⟨1,tw,fr,ep,ed,km,ls,ct,tn⟩⟩) (.returned (.bool true))):=Jf (c.out.2 ⟨rfl,rfl,n⟩);have q:=sU ⟨1,tw,fr,ep,ed,km,ls,ct,tn⟩;generalize Y2 (Jr ⟨1,tw,fr,ep,ed,km,ls,ct,tn⟩)=s at*;have hne2:¬s.toList=[]:=λh=>by rw[h]at q;cases q
  clear n;go_wp2
  all_goals go_ret
  all_goals exact⟨u.out,i⟩
 have a:Hid (Ia (En ⟨tw,true,true,⟨1,tw,fr,ep,ed,km,ls,ct,tn⟩⟩) (.returned (.bool false))):=Z5 (λh=>p (c.out.1 h).2.2);clear p;go_wp2
 all_goals go_ret
 all_goals exact⟨a.out,i⟩
