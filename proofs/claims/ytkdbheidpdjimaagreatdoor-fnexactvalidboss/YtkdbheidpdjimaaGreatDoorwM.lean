import Derived.Test.YtkdbheidpdjimaaGreatDoorwJ
import Derived.Test.YtkdbheidpdjimaaGreatDoorwE
import Derived.Test.YtkdbheidpdjimaaGreatDoorwC
set_option linter.unusedVariables false
set_option maxHeartbeats 8000000
set_option maxRecDepth 100000
namespace Go.Proofs.YtkdbheidpdjimaaGreatDoor
open Proofs.Tryz Go.RowKit
theorem a0q (fs:List T.F2):∃ ms,G.Sj fs ms:=by
 by_cases ht:T.J_ fs;rotate_left
 · exact ⟨[],.inl ⟨ht,rfl⟩⟩
 by_cases hf:G.Free fs G.Vr
 · exact ⟨[],.inr (.inl ⟨ht,hf,rfl⟩)⟩
 obtain ⟨i,b,g⟩:∃ i,i<fs.length/\(fs.getD i T.P8).nm=G.Vr:=Classical.byContradiction fun h=>hf fun i b e=>h ⟨i,b,e⟩;obtain ⟨a,ok,f⟩:∃ a ok,G.Va (fs.getD i T.P8).tx.data.toList a ok:=by
  by_cases h:∃ js,G.Zd js=true/\js.flatMap G.x_=(fs.getD i T.P8).tx.data.toList/\(fs.getD i T.P8).tx.data.toList.length<=300
  · obtain ⟨js,h1,h2,d⟩:=h;exact ⟨js,true,fun _=>⟨h1,h2,d⟩,fun c=>by cases c⟩
  exact ⟨[],false,(fun c=>by cases c),fun _=>⟨rfl,fun js h1 h2=>Nat.lt_of_not_le fun d=>h ⟨js,h1,h2,d⟩⟩⟩
 by_cases h:ok=true/\G.Jm fs a
 · exact ⟨a,.inr (.inr ⟨ht,i,b,g,a,ok,f,.inl ⟨h.1,h.2,rfl⟩⟩)⟩
 exact ⟨[],.inr (.inr ⟨ht,i,b,g,a,ok,f,.inr ⟨h,rfl⟩⟩)⟩
def sU (b:Bs) (m:MS):Prop:=CW b m/\(0<=b.ed/\b.ed<=1000)/\RH b.rt/\∃ ms,G.Sj b.fs ms/\pF ms b.rn/\nX b
def PN (b:Bs) (m:MS):Prop:=(b.up=true/\sU b m)\/(b.up=false/\iC b)
theorem c5 (b:Bs) (q:Ba) (w:World) (hl:Bo b 1048576) (hsl:b.sf.length+b.lo.length<=1048576) (hcp:KX b q) (hat:Dn w b q):
 Calls prog 5 #[.agg (bsV b q).toArray] w fun e w'=>((e=.returned (.bool false)/\¬ (Pre b/\1<=b.wd/\b.wd<=8))\/∃ cd m,Out RES (b.sf++b.lo) b.wd cd m/\Rb (Pre b/\cd=0/\PN b m) e)/\Bw w w':=by
 have O:=U0 hat;have HL:=U0 hl;have HCP:=U0 hcp;have hhl:=hl.hl;have hrl:=hl.rl;have HES:Hid (∀ i,((b.sf++b.lo).getD i ByteArray.empty).size<=1048576):=fun i=>by
  by_cases h:i<b.sf.length
  · rw [show (b.sf++b.lo).getD i ByteArray.empty=b.sf.getD i ByteArray.empty by simp [List.getD,I_ h]];exact hl.ss i
  · rw [show (b.sf++b.lo).getD i ByteArray.empty=b.lo.getD (i - b.sf.length) ByteArray.empty by simp [List.getD,Cf (Jv h)]];exact hl.ls _
 clear hat hl hcp;go_enter func5,ntmps5
 go_upto_region 1 with fail
 have Z:=U0 (G6 w (bsV b q) 48);have B0:=U0 (o7 (w:=w) (o:=.cells (bsV b q).toArray 48));generalize w.alloc (.cells (bsV b q).toArray 48)=V at*;have a0:=Z.out.cell 0;have a2:=Z.out.cell 2;have L:=Z.out.cell 11;simp only [@gz Value] at a0 a2 L
 go_wp2_with fail
 refine (c16 b.wd V).mono ?_;rintro e V' ⟨rfl,hw⟩;obtain rfl:=hw.symm;by_cases h1:1<=b.wd/\b.wd<=8;rotate_left
 · have F:Hid (¬ (Pre b/\1<=b.wd/\b.wd<=8)):=fun h=>h1 h.2;rw [P9 h1];go_wp2;go_ret;exact ⟨.inl ⟨rfl,F.out⟩,B0.out⟩
 rw [y_ h1]
 go_wp2_with fail
 refine (c17 b.hd.length 1 4 V).mono ?_;rintro e V' ⟨rfl,hw⟩;obtain rfl:=hw.symm;by_cases h2:1<=b.hd.length/\b.hd.length<=4;rotate_left
 · have F:Hid (¬ (Pre b/\1<=b.wd/\b.wd<=8)):=fun h=>h2 h.1.2.1;rw [show decide (1<=(b.hd.length:Int)/\(b.hd.length:Int)<=4)=false from P9 O0];go_wp2;go_ret;exact ⟨.inl ⟨rfl,F.out⟩,B0.out⟩
 rw [show decide (1<=(b.hd.length:Int)/\(b.hd.length:Int)<=4)=true from y_ O0]
 go_wp2_with fail
 refine (c17 b.now 0 1000000 V).mono ?_;rintro e V' ⟨rfl,hw⟩;obtain rfl:=hw.symm;by_cases h3:0<=b.now/\b.now<=1000000;rotate_left
 · have F:Hid (¬ (Pre b/\1<=b.wd/\b.wd<=8)):=fun h=>h3 h.1.1;rw [P9 h3];go_wp2;go_ret;exact ⟨.inl ⟨rfl,F.out⟩,B0.out⟩
 rw [y_ h3];clear a0 a2 L
 go_upto_region 3 with fail
 go_cut [3] from 4 (fun s3 wx=>∃ A cd m fa ta ra fc tc rc,s3=.pointer (some ⟨A,0,none⟩)/\Hid (MT RES w b q A cd m fa ta ra fc tc rc wx))
 case first=>
  have E:Hid (∀ u,Bw V u->u.cell? ⟨w.heap.size,0,none⟩=some (vI b.wd)/\u.cell? ⟨w.heap.size,5,none⟩=some (vL q.sa b.sf.length q.sc)/\u.cell? ⟨w.heap.size,6,none⟩=some (vL q.la b.lo.length q.lc)):=fun u hu=>have h:=Z.out.below hu Z.out.lt;⟨h.cell 0,h.cell 5,h.cell 6⟩
  have bd:Bw V V.drew:=(Z4 _ _).drew;have HCA:Hid (∀ u,Bw V u->Calls prog 19 #[.agg #[.slice q.sa b.sf.length q.sc,.slice q.la b.lo.length q.lc]] u fun e w'=>(∃ a c,e=.returned (vL a (b.sf++b.lo).length c)/\y8 w' a (b.sf++b.lo))/\Bw u w'):=fun u hu=>c19 b.sf b.lo q.sa q.la q.sc q.lc u hsl (Z5 O.out.sf (G7 B0.out hu)) (Z5 O.out.lo (G7 B0.out hu));have HCB:Hid (∀ u a c,Bw V u->y8 u a (b.sf++b.lo)->Calls prog 18 #[.slice a (b.sf.length+b.lo.length) c,.int .i64 b.wd] u fun e w'=>(∃ cd m fa fc ta tc ra rc,e=.returned (.agg #[vI cd,vI m.ep,vL fa m.fs.length fc,vI m.s.wd,vL ta m.s.ts.length tc,vL ra m.s.rs.length rc])/\Out RES (b.sf++b.lo) b.wd cd m/\Kp u.heap.size w' fun u=>T.J6 u fa m.fs/\Zg u ta ra m.s)/\Bw u w'):=fun u a c hu h=>by
   have hc:=a1M a c (b.sf++b.lo) b.wd u (by rw [N9];exact hsl) HES.out h;rw [N9] at hc;exact hc
  have HMK:Hid (∀ (y z:World) (A:Nat) (cd:Int) (m:MS) (fa ta ra:OA) (fc tc rc:Nat),Bw V y->V.heap.size<=A->vF A y z->Cl z A 62 [vI cd,vI m.ep,vL fa m.fs.length fc,vI m.s.wd,vL ta m.s.ts.length tc,vL ra m.s.rs.length rc]->Out RES (b.sf++b.lo) b.wd cd m->T.J6 z fa m.fs/\Zg z ta ra m.s->MT RES w b q A cd m fa ta ra fc tc rc z):=fun y z A cd m fa ta ra fc tc rc h1 h2 h3 h4 W h6=>by
   have h7:=h1.trans (h3.below h2);exact ⟨W,h4,Z.out.below h7 Z.out.lt,h6.1,h6.2,G7 B0.out h7⟩
  refine wp_region_held_drew (S:=fun u=>u.cell? ⟨w.heap.size,0,none⟩=some (vI b.wd)/\u.cell? ⟨w.heap.size,5,none⟩=some (vL q.sa b.sf.length q.sc)/\u.cell? ⟨w.heap.size,6,none⟩=some (vL q.la b.lo.length q.lc)) J3 (E.out _ bd) fun hH=>?_;refine Y0 0 ?_;refine Y0 1 ?_;refine Y0 3 ?_;refine Y0 4 ?_;refine wpAnyH_ready (rs:=[2,6]) J3 I4 (AllReadyH.cons (o:=⟨some 25,.call ⟨.value (.func 19),#[.tmp 24],#[38]⟩,22,_,_,none⟩) rfl (fun K d=>?_) (AllReadyH.cons (o:=⟨some 3,.alloc 62,0,_,_,none⟩) rfl (fun K d=>?_) AllReadyH.nil))
  · go_simp;refine (HCA.out _ bd).mono ?_;rintro e y1 ⟨⟨N,k1,rfl,h1⟩,f⟩;have H:=bd.trans f;have S1:=U0 h1;clear h1 f
    go_wp2_with fail
    refine J8 d (E.out _ H) fun hH=>?_;clear d K;refine wpAnyH_ready (rs:=[5,6]) J3 I4 (AllReadyH.cons (o:=⟨some 28,.call ⟨.value (.func 18),#[.tmp 25,.tmp 27],#[22,3]⟩,62,_,_,none⟩) rfl (fun K d=>?_) (AllReadyH.cons (o:=⟨some 3,.alloc 62,0,_,_,none⟩) rfl (fun K d=>?_) AllReadyH.nil))
    · go_simp;refine (HCB.out y1 N k1 H S1.out).mono ?_;rintro e y2 ⟨⟨cd,m,fa,fc,ta,tc,ra,rc,rfl,ho,r⟩,f⟩;have C:=G7 H f;have l:=U0 ho;have HK:=U0 r;clear ho r f
      go_wp2_with fail
      refine J8 d (E.out _ C) fun hH=>?_;clear d K;refine rq 6 fun K d=>?_;go_simp;have P:=U0 (G6 y2 [vO,vO,vN,vO,vN,vN] 62);have b3:Bw V (y2.alloc (.cells #[vO,vO,vN,vO,vN,vN] 62)):=C.alloc C.size _;refine J8 d (E.out _ b3) fun hH=>?_;clear d K;refine rq 7 fun K d=>?_;refine Ik rfl 62 _ _ rfl (B:=y2.heap.size) (j:=0) rfl (vs:=[vI cd,vI m.ep,vL fa m.fs.length fc,vI m.s.wd,vL ta m.s.ts.length tc,vL ra m.s.rs.length rc]) rfl P.out x9 (Cj rfl rfl rfl rfl rfl rfl) J3 ?_;intro z cz D;have t:=U0 (HMK.out _ z y2.heap.size cd m fa ta ra fc tc rc b3 C.size D cz l.out (HK.out z (by have:=D.size;simp at this;omega) (fun q _ hq=>(D.block q O0).trans (Lib.alloc_old y2 _ q hq))));refine J8 d (E.out _ (b3.trans (D.below C.size))) fun hH=>?_;clear d K;refine wdn ?_
      go_wp2_with fail
      go_meet
      case rel=>exact ⟨_,_,_,_,_,_,_,_,_,rfl,t⟩
    go_simp;have P:=U0 (G6 y1 [vO,vO,vN,vO,vN,vN] 62);have C:Bw V (y1.alloc (.cells #[vO,vO,vN,vO,vN,vN] 62)):=H.alloc H.size _;have S2:=U0 (Z5 S1.out (o7 (w:=y1) (o:=.cells #[vO,vO,vN,vO,vN,vN] 62)));refine J8 d (E.out _ C) fun hH=>?_;clear d K;refine rq 5 fun K d=>?_;go_simp;refine (HCB.out _ N k1 C S2.out).mono ?_;rintro e y3 ⟨⟨cd,m,fa,fc,ta,tc,ra,rc,rfl,ho,r⟩,f⟩;have by3:=G7 C f;have l:=U0 ho;have HK:=U0 r;have a3L:=U0 (P.out.below f P.out.lt);have hAl:=U0 P.out.lt;clear ho r f
    go_wp2_with fail
    refine J8 d (E.out _ by3) fun hH=>?_;clear d K;refine rq 7 fun K d=>?_;refine Ik rfl 62 _ _ rfl (B:=y1.heap.size) (j:=0) rfl (vs:=[vI cd,vI m.ep,vL fa m.fs.length fc,vI m.s.wd,vL ta m.s.ts.length tc,vL ra m.s.rs.length rc]) rfl a3L.out x9 (Cj rfl rfl rfl rfl rfl rfl) J3 ?_;intro z cz D;have t:=U0 (HMK.out _ z y1.heap.size cd m fa ta ra fc tc rc by3 H.size D cz l.out (HK.out.on D hAl.out).now);refine J8 d (E.out _ (by3.trans (D.below H.size))) fun hH=>?_;clear d K;refine wdn ?_
    go_wp2_with fail
    go_meet
    case rel=>exact ⟨_,_,_,_,_,_,_,_,_,rfl,t⟩
  go_simp;have CA0:=U0 (G6 V.drew [vO,vO,vN,vO,vN,vN] 62);have H:Bw V (V.drew.alloc (.cells #[vO,vO,vN,vO,vN,vN] 62)):=bd.alloc x9 _;refine J8 d (E.out _ H) fun hH=>?_;clear d K;refine rq 2 fun K d=>?_;go_simp;refine (HCA.out _ H).mono ?_;rintro e y2 ⟨⟨N,k1,rfl,h1⟩,f⟩;have C:=G7 H f;have P:=U0 (CA0.out.below f CA0.out.lt);have S1:=U0 h1;clear h1 f
  go_wp2_with fail
  refine J8 d (E.out _ C) fun hH=>?_;clear d K;refine rq 5 fun K d=>?_;go_simp;refine (HCB.out y2 N k1 C S1.out).mono ?_;rintro e y3 ⟨⟨cd,m,fa,fc,ta,tc,ra,rc,rfl,ho,r⟩,f⟩;have by3:=G7 C f;have l:=U0 ho;have HK:=U0 r;have a3L:=U0 (P.out.below f P.out.lt);have hAl:=U0 P.out.lt;clear ho r f
  go_wp2_with fail
  refine J8 d (E.out _ by3) fun hH=>?_;clear d K;refine rq 7 fun K d=>?_;refine Ik rfl 62 _ _ rfl (B:=V.drew.heap.size) (j:=0) rfl (vs:=[vI cd,vI m.ep,vL fa m.fs.length fc,vI m.s.wd,vL ta m.s.ts.length tc,vL ra m.s.rs.length rc]) rfl a3L.out x9 (Cj rfl rfl rfl rfl rfl rfl) J3 ?_;intro z cz D;have t:=U0 (HMK.out _ z V.drew.heap.size cd m fa ta ra fc tc rc by3 x9 D cz l.out (HK.out.on D hAl.out).now);refine J8 d (E.out _ (by3.trans (D.below x9))) fun hH=>?_;clear d K;refine wdn ?_
  go_wp2_with fail
  go_meet
  case rel=>exact ⟨_,_,_,_,_,_,_,_,_,rfl,t⟩
 obtain ⟨A,cd,m,fa,ta,ra,fc,tc,rc,rfl,t⟩:=hcut;have l:=U0 t.out.out;have CM:=U0 t.out.cm;have CB:=U0 t.out.cb;have BC:=U0 t.out.bel;have HF:=U0 t.out.fl;have HSt:=U0 t.out.st;have HSM:=U0 t.out.out.1;clear t Z B0;have m0:=CM.out.cell 0;simp only [@gz Value] at m0;by_cases hcd:cd=0;rotate_left
 · have F:Hid (¬ (Pre b/\cd=0/\PN b m)):=fun h=>hcd h.2.1;go_wp2;go_ret;exact ⟨.inr ⟨cd,m,l.out,G5 F.out⟩,BC.out⟩
 rw [hcd] at m0;have HCD:=U0 hcd;clear hcd;obtain ⟨bb,off,hc⟩:=vg O.out.hd;have HC:=U0 hc;clear hc
 go_upto_region 6 with fail
 clear m0
 go_wp2_with fail
 go_loopw [4] (fun i wr=>∃ k:Nat,k<=b.hd.length/\i=.int .i64 k/\Hid (∀ j,j<k-> -1<=b.hd.getD j 0/\b.hd.getD j 0<=b.now)/\Below wc.heap.size wc wr) (fun i _=>b.hd.length - (intOf i).toNat)
 case atStart=>exact ⟨0,D5 _,rfl,fun j h=>absurd h (o9 _),Z4 _ _⟩
 case round=>
  generalize wr=wo at*;obtain ⟨k,r,rfl,hd,f⟩:=hrel;have x:=U0 (CB.out.below f CB.out.lt);have Q:=U0 (G7 BC.out f);have MW:=U0 (CM.out.below f CM.out.lt);have FW:=U0 (T.U5 HF.out f);have SW:=U0 (HSt.out.below f);have HBW:=U0 f;clear f;have a2:=x.out.cell 2;have L:=x.out.cell 11;simp only [@gz Value] at a2 L;by_cases R:k<b.hd.length
  · obtain ⟨ha,hbw,hcell⟩:=Nc HC.out R;rw [ha] at L;have HAq:=U0 ha;have g0:=(Q.out.cell (p:=⟨bb,off+k,none⟩) hbw).trans (hcell k R);have HD:Hid (-1<=b.hd.getD k 0/\b.hd.getD k 0<=b.now->∀ j,j<k+1-> -1<=b.hd.getD j 0/\b.hd.getD j 0<=b.now):=fun hg j hj=>by
     rcases o8 j k with h | h
     · exact hd.out j h
     · obtain rfl:j=k:=O0;exact hg
    have F:Hid (¬ (-1<=b.hd.getD k 0/\b.hd.getD k 0<=b.now)->¬ (Pre b/\cd=0/\PN b m)):=fun hg h=>hg (h.1.2.2 k R);generalize b.hd.getD k 0=X at*;clear hcell hd ha;by_cases hx:-1<=X/\X<=b.now
    · have HD1:=U0 (HD.out hx);have H17:Hid (∀ u,Calls prog 17 #[.int .i64 X,.int .i64 (-1),.int .i64 b.now] u fun e w'=>e=.returned (.bool true)/\w'=u):=fun u=>by
       have h:=c17 X (-1) b.now u;rw [y_ hx] at h;exact h
      go_wp2_with fail
      go_region_with (go_at_call 17;refine (H17.out _).mono ?_;rintro e w1 ⟨rfl,rfl⟩)
      all_goals go_wp2
      all_goals go_roundw
      all_goals first
       | exact ⟨k+1,O0,by go_num,HD1,HBW.out.drew⟩
       | (simp [intOf];omega)
    have n:=U0 (F.out hx);have H17:Hid (∀ u,Calls prog 17 #[.int .i64 X,.int .i64 (-1),.int .i64 b.now] u fun e w'=>e=.returned (.bool false)/\w'=u):=fun u=>by
     have h:=c17 X (-1) b.now u;rw [P9 hx] at h;exact h
    go_wp2_with fail
    go_region_with (go_at_call 17;refine (H17.out _).mono ?_;rintro e w1 ⟨rfl,rfl⟩)
    all_goals go_wp2
    all_goals go_ret
    all_goals exact ⟨.inr ⟨cd,m,l.out,G5 n.out⟩,Q.out.drew⟩
  obtain rfl:k=b.hd.length:=O0;have HPR:Hid (Pre b):=⟨h3,h2,hd.out⟩;clear hd R r a2 L;have N:=x.out.cell 1;have L:=x.out.cell 11;simp only [@gz Value] at N L
  cases hup:b.up with
  | false=>
   rw [hup] at N;have HUP:=U0 hup;clear hup
   go_wp2_with (refine Z9 rfl (Y8 48 _ rfl (B:=w.heap.size) (j:=0) (cs:=(bsV b q)) rfl (fun q v e=>by rw [E8];exact (x.out.cell q).trans e) underlying48 rfl J3) ?_)
   refine (c20 b q wo HL.out (O.out.below Q.out)).mono ?_;rintro e w2 ⟨⟨I,rfl,g⟩,U⟩;have HE:Hid (I=true↔Pre b/\cd=0/\PN b m):=⟨fun h=>⟨HPR.out,HCD.out,.inr ⟨HUP.out,g.1 h⟩⟩,fun h=>g.2 (by rcases h.2.2 with ⟨k,_⟩ | ⟨_,k⟩;(rw [HUP.out] at k;cases k);exact k)⟩;have B2:=U0 (G7 Q.out U);clear g U;go_wp2;go_ret;exact ⟨.inr ⟨cd,m,l.out,_,rfl,HE.out⟩,B2.out⟩
  | true=>
  rw [hup] at N;have HUP:=U0 hup;clear hup;have Y:Hid (¬ sU b m->¬ (Pre b/\cd=0/\PN b m)):=fun h k=>by
   rcases k.2.2 with ⟨_,k⟩ | ⟨k,_⟩
   · exact h k
   rw [HUP.out] at k;cases k
  have HYE:Hid (sU b m->Pre b/\cd=0/\PN b m):=fun h=>⟨HPR.out,HCD.out,.inl ⟨HUP.out,h⟩⟩
  go_upto_region 13 with fail
  clear N L;have a3:=x.out.cell 3;have a4:=x.out.cell 4;have a7:=x.out.cell 7;have a8:=x.out.cell 8;have a9:=x.out.cell 9;have a10:=x.out.cell 10;have J:=x.out.cell 12;simp only [@gz Value] at a3 a4 a7 a8 a9 a10 J;have m1:=MW.out.cell 1;have m2:=MW.out.cell 2;have m3:=MW.out.cell 3;have m4:=MW.out.cell 4;have m5:=MW.out.cell 5;simp only [@gz Value] at m1 m2 m3 m4 m5;by_cases W:b.ep=m.ep;rotate_left
  · have n:=U0 (Y.out (fun h=>W h.1.2.1));go_wp2;go_ret;exact ⟨.inr ⟨cd,m,l.out,G5 n.out⟩,Q.out⟩
  have H5:=U0 W;rw [<- W] at m1;clear W;by_cases h6:1<=b.ep;rotate_left
  · have n:=U0 (Y.out (fun h=>h6 h.1.1));go_wp2;go_ret;exact ⟨.inr ⟨cd,m,l.out,G5 n.out⟩,Q.out⟩
  go_wp2_with fail
  refine (c17 b.ed 0 1000 wo).mono ?_;rintro e V' ⟨rfl,hw⟩;obtain rfl:=hw.symm;by_cases h7:0<=b.ed/\b.ed<=1000;rotate_left
  · have n:=U0 (Y.out (fun h=>h7 h.2.1));rw [P9 h7];go_wp2;go_ret;exact ⟨.inr ⟨cd,m,l.out,G5 n.out⟩,Q.out⟩
  rw [y_ h7]
  go_wp2_with fail
  refine (c21 b.fs m.fs q.fa fa q.fc fc wo HL.out.fl (Q7 HSM.out.fl O6) (T.U5 O.out.fs Q.out) FW.out).mono ?_;rintro e w2 ⟨⟨I,rfl,g⟩,U⟩;have B2:=U0 (G7 Q.out U);have C2:=U0 (x.out.below U x.out.lt);have M2:=U0 (MW.out.below U MW.out.lt);have S2:=U0 (SW.out.below U);clear U a3 a4 a7 a8 a9 a10 J m1 m2 m3 m4 m5
  cases I with
  | false=>
   have n:=U0 (Y.out (fun h=>by have:=g.2 h.1.2.2.1;cases this));clear g;go_wp2;go_ret;exact ⟨.inr ⟨cd,m,l.out,G5 n.out⟩,B2.out⟩
  | true=>
  have HFS:=U0 (g.1 rfl);clear g;have a8:=C2.out.cell 8;have a9:=C2.out.cell 9;have a10:=C2.out.cell 10;simp only [@gz Value] at a8 a9 a10;have m3:=M2.out.cell 3;have m4:=M2.out.cell 4;have m5:=M2.out.cell 5;simp only [@gz Value] at m3 m4 m5
  go_wp2_with fail
  refine (c22 b.s m.s q.ta q.ra ta ra q.tc q.rc tc rc w2 (IU HL.out.st) (a0e HSM.out) (O.out.st.below B2.out) S2.out).mono ?_;rintro e w3 ⟨⟨I,rfl,g⟩,hb3⟩;have B3:=U0 (G7 B2.out hb3);have C3:=U0 (C2.out.below hb3 C2.out.lt);clear hb3 a8 a9 a10 m3 m4 m5
  cases I with
  | false=>
   have n:=U0 (Y.out (fun h=>by have:=g.2 h.1.2.2.2;cases this));clear g;go_wp2;go_ret;exact ⟨.inr ⟨cd,m,l.out,G5 n.out⟩,B3.out⟩
  | true=>
  have HRM:Hid (CW b m):=⟨h6,H5.out,HFS.out,g.1 rfl⟩;clear g;have J:=C3.out.cell 12;simp only [@gz Value] at J;by_cases h8:b.rt.length<=10;rotate_left
  · have n:=U0 (Y.out (fun h=>h8 h.2.2.1.1));have z:(10:Int)<b.rt.length:=O0;go_wp2;go_ret;exact ⟨.inr ⟨cd,m,l.out,G5 n.out⟩,B3.out⟩
  have z:¬ (10:Int)<b.rt.length:=O0
  go_upto_region 15 with fail
  clear J z;obtain ⟨rb,ro,hcr⟩:=Q_ O.out.rt;have HCR:=U0 hcr;have HOC:=U0 HCP.out.1;clear hcr
  go_wp2_with fail
  go_loopw [5] (fun i wr=>∃ k:Nat,k<=b.rt.length/\i=.int .i64 k/\Hid (∀ j,j<k->o6 (b.rt.getD j ByteArray.empty).data.toList=true/\b.rt.getD j ByteArray.empty∉b.rt.take j)/\Below w3.heap.size w3 wr) (fun i _=>b.rt.length - (intOf i).toNat)
  case atStart=>exact ⟨0,D5 _,rfl,fun j h=>absurd h (o9 _),Z4 _ _⟩
  case round=>
   obtain ⟨k,r,rfl,hd,f⟩:=hrel;have CZ:=U0 (C3.out.below f C3.out.lt);have BR:=U0 (G7 B3.out f);have HBR:=U0 f;clear f;have J:=CZ.out.cell 12;simp only [@gz Value] at J;by_cases R:k<b.rt.length;rotate_left
   · obtain rfl:k=b.rt.length:=O0;have HRT:Hid (RH b.rt):=⟨h8,hd.out⟩;obtain ⟨ms,hpt⟩:=a0q b.fs;have HPT:=U0 hpt;clear hd hpt
     go_wp2_with (refine Z9 rfl (Y8 48 _ rfl (B:=w.heap.size) (j:=0) (cs:=(bsV b q)) rfl (fun q v e=>by rw [E8];exact (CZ.out.cell q).trans e) underlying48 rfl J3) ?_)
     refine (c25 b q ms wr HL.out HPT.out (O.out.below BR.out)).mono ?_;rintro e w4 ⟨⟨I,rfl,g⟩,hb4⟩;have B4:=U0 (G7 BR.out hb4);have C4:=U0 (CZ.out.below hb4 CZ.out.lt);clear hb4 J
     cases I with
     | false=>
      have n:=U0 (Y.out (fun h=>by
       obtain ⟨ms',W,h6,_⟩:=h.2.2.2;obtain rfl:=G.Jz W HPT.out;have:=g.2 h6;cases this))
      clear g;go_wp2;go_ret;exact ⟨.inr ⟨cd,m,l.out,G5 n.out⟩,B4.out⟩
     | true=>
     have HRN:=U0 (g.1 rfl);clear g
     go_wp2_with (refine mD rfl 48 _ rfl (B:=w.heap.size) rfl C4.out underlying48 rfl J3 ?_)
     refine (c26 b q w4 HL.out h3 (O.out.below B4.out)).mono ?_;rintro e w5 ⟨⟨I,rfl,g⟩,hb5⟩;have B5:=U0 (G7 B4.out hb5);have HE:Hid (I=true↔Pre b/\cd=0/\PN b m):=⟨fun h=>HYE.out ⟨HRM.out,h7,HRT.out,ms,HPT.out,HRN.out,g.1 h⟩,fun h=>g.2 (by
      rcases h.2.2 with ⟨_,k⟩ | ⟨k,_⟩
      · obtain ⟨_,_,_,k⟩:=k.2.2.2;exact k
      rw [HUP.out] at k;cases k)⟩
     clear g hb5;go_wp2;go_ret;exact ⟨.inr ⟨cd,m,l.out,_,rfl,HE.out⟩,B5.out⟩
   obtain ⟨ha,hbw,hcell⟩:=Nc HCR.out R;have hvd:Bw wr wr.drew:=(Z4 _ _).drew;have BD:=U0 (G7 BR.out hvd);have HX:=U0 ((BD.out.cell (by exact hbw)).trans (hcell k R));have hsz:=HL.out.rs k;have HD:Hid (o6 (b.rt.getD k ByteArray.empty).data.toList=true/\b.rt.getD k ByteArray.empty∉b.rt.take k->∀ j,j<k+1->o6 (b.rt.getD j ByteArray.empty).data.toList=true/\b.rt.getD j ByteArray.empty∉b.rt.take j):=fun hg j hj=>by
    rcases o8 j k with h | h
    · exact hd.out j h
    · obtain rfl:j=k:=O0;exact hg
   have F:Hid (¬ (o6 (b.rt.getD k ByteArray.empty).data.toList=true/\b.rt.getD k ByteArray.empty∉b.rt.take k)->¬ (Pre b/\cd=0/\PN b m)):=fun hg=>Y.out (fun h=>hg (h.2.2.1.2 k R));have hcl:=fun s=>G.c24 (some ⟨rb,ro,none⟩) q.oc (b.rt.take k) s wr.drew (by rw [Ro r];omega) (rG r (m_ hbw BD.out.size) (fun i hi=>(BD.out.cell (by exact hbw)).trans (hcell i hi)));simp only [Ro r] at hcl;have HQ:=U0 hcl;rw [ha] at J;have HAq:=U0 ha;have hkc:k<=q.oc:=by have:=HOC.out;omega
   generalize b.rt.getD k ByteArray.empty=X at*;clear hcell hd hcl ha
   go_wp2_with fail
   refine wp_region_held_drew (S:=fun u=>u.cell? ⟨w.heap.size,12,none⟩=some (vL (some ⟨rb,ro,none⟩) b.rt.length q.oc)/\u.cell? ⟨rb,ro+k,none⟩=some (vS X)) J3 ⟨(CZ.out.below hvd CZ.out.lt).cell 12|>.trans (by unfold bsV;rw [HAq.out];rfl),HX.out⟩ fun hH=>?_;have hS:=U0 hH;refine Y0 0 ?_;refine Y0 1 ?_;refine Y0 2 ?_;refine Y0 3 ?_;refine Y0 4 ?_;refine rq 5 fun K d=>?_;go_simp;refine (c23 X wr.drew O0).mono ?_;rintro e w7 ⟨rfl,hw7⟩;obtain rfl:=hw7.symm
   go_wp2_with fail
   refine J8 d hS.out fun hH=>?_;clear d K;by_cases hn:o6 X.data.toList=true;rotate_left
   · have n:=U0 (F.out (fun h=>hn h.1));rw [Uh.2 hn];refine Y0 6 ?_;refine Y0 7 ?_;refine Y4 8 ?_;refine Y4 9 ?_;refine Y4 10 ?_;refine Y4 11 ?_;refine Y4 12 ?_;refine Y4 13 ?_;refine Y4 14 ?_;refine Y4 15 ?_;refine Y4 16 ?_;refine Y4 17 ?_;refine Y0 18 ?_;refine wdn ?_;go_wp2;go_ret;exact ⟨.inr ⟨cd,m,l.out,G5 n.out⟩,BD.out⟩
   rw [hn];refine Y0 6 ?_;refine Y0 7 ?_;refine Y0 8 ?_;refine Y0 9 ?_;refine Y0 10 ?_;refine Y0 11 ?_;refine Y0 12 ?_;refine Y0 13 ?_;refine Y0 14 ?_;refine Y0 15 ?_;refine Y0 16 ?_;refine rq 17 fun K d=>?_;go_simp;refine (HQ.out X).mono ?_;rintro e w7 ⟨rfl,hw7⟩;obtain rfl:=hw7.symm
   go_wp2_with fail
   refine J8 d hS.out fun hH=>?_;clear d K;by_cases hm:X∈b.rt.take k
   · have n:=U0 (F.out (fun h=>h.2 hm));rw [G.Yh.2 hm];refine Y0 18 ?_;refine wdn ?_;go_wp2;go_ret;exact ⟨.inr ⟨cd,m,l.out,G5 n.out⟩,BD.out⟩
   have HD1:=U0 (HD.out ⟨hn,hm⟩);rw [Uh.2 (fun h=>hm (G.Yh.1 h))];refine Y0 18 ?_;refine wdn ?_;go_wp2;go_roundw
   case rel=>exact ⟨k+1,O0,by go_num,HD1,HBR.out.drew⟩
   case measure=>simp [intOf];omega
theorem ji {α:Type} {l:List α} {d:α} {f:α->ByteArray} (h:∀ i,i<l.length->0<i->Op.bytesLess (f (l.getD (i - 1) d)).toList (f (l.getD i d)).toList=true):∀ (j i:Nat),i<j->j<l.length->Op.bytesLess (f (l.getD i d)).toList (f (l.getD j d)).toList=true
 | 0,i,h1,_=>absurd h1 (o9 _)
 | j+1,i,h1,h2=>by
  have a:=h (j+1) h2 O0;rw [xI] at a;by_cases e:i=j
  · rw [e];exact a
  exact T.Jq _ _ _ (ji h j i O0 O0) a
theorem NQ {b:Bs} {ms:List M3} (hr:pF ms b.rn):nX b↔SY b:=by
 have o:=ji (l:=b.rn) (d:=Aa) (f:=fun x=>x.nm) (fun i a h0=>(hr i a).2.2 h0);constructor
 · intro h i a;have p:=ji (l:=b.jb) (d:=Oc) (f:=fun x=>x.nm) (fun i a h0=>(h i a).2.1 h0);obtain ⟨⟨t,h1,h2,_,c⟩,_,k,r,q⟩:=h i a;refine ⟨fun m n ho=>?_,⟨t,h1,h2,c⟩,k,r⟩;rcases ho with ho | ho
   · exact q m n ho
   rw [p i m n a] at ho;cases ho
 · intro h i a;obtain ⟨h1,⟨t,h2,c⟩,s,k⟩:=h i a;refine ⟨⟨t,h2,c.1,fun j g e=>?_,c.2⟩,fun h0=>?_,s,k,fun j g e=>h1 j g (.inl e)⟩
   · have hl:=o t j g h2;rw [c.1,e] at hl;rw [T.Jo] at hl;cases hl
   cases hq:Op.bytesLess (b.jb.getD (i - 1) Oc).nm.toList (b.jb.getD i Oc).nm.toList with
   | true=>rfl
   | false=>exact absurd (.inr hq) (h1 (i - 1) O0)
theorem VT {b:Bs} {m:MS}:sU b m↔Upp b m:=by
 constructor
 · rintro ⟨h1,h2,e,ms,d,a,c⟩;exact ⟨h1,h2,e,ms,d,a,(NQ a).1 c⟩
 · rintro ⟨h1,h2,e,ms,d,a,c⟩;exact ⟨h1,h2,e,ms,d,a,(NQ a).2 c⟩
theorem jT {b:Bs} {c a:Bool} (h1:(c=false/\¬ (Pre b/\1<=b.wd/\b.wd<=8))\/∃ cd m,Out RES (b.sf++b.lo) b.wd cd m/\(c=true↔Pre b/\cd=0/\PN b m)) (h2:(a=false/\¬ Pre b)\/∃ cd m,Out RE (b.sf++b.lo) b.wd cd m/\(a=true↔Pre b/\cd=0/\VM b m)):c=a:=by
 rcases h1 with ⟨rfl,h1⟩ | ⟨cd,m,o1,h1⟩
 · rcases h2 with ⟨rfl,_⟩ | ⟨cd,m,o2,h2⟩
   · rfl
   cases a with
   | false=>rfl
   | true=>
    obtain ⟨d,k2,_⟩:=h2.1 rfl;rcases o2.2 with ⟨_,k,_⟩ | ⟨k,_⟩
    · omega
    exact absurd ⟨d,k.1⟩ h1
 rcases h2 with ⟨rfl,h2⟩ | ⟨cd',m',o2,h2⟩
 · cases c with
   | false=>rfl
   | true=>exact absurd (h1.1 rfl).1 h2
 obtain ⟨rfl,rfl⟩:=PU o1 o2;have e:PN b m'↔VM b m':=by
  unfold PN VM;rw [VT]
 rw [Bool.eq_iff_iff,h1,h2,e]
theorem gW {P:Prop} {r:Bool} (h:Rb P (.returned (.bool r))):r=true↔P:=by
 obtain ⟨_,e,h⟩:=h;cases e;exact h
theorem qW {r s:Bool} (h:Ending.returned (.bool r)=.returned (.bool s)):r=s:=by cases h;rfl
theorem c3 (b:Bs) (q:Ba) (w:World) (hl:Bo b 9223372036854775807) (hv:G.Yr w) (hat:Dn w b q):
 Calls prog 3 #[.agg (bsV b q).toArray] w fun e w'=>e=.returned (.bool true)/\Bw w w':=by
 have n:=U0 hat;have HL0:=U0 hl;have HV:=U0 hv;clear hat hl hv;go_enter func3,ntmps3
 go_upto_region 2 with fail
 have x:=U0 (G6 w (bsV b q) 35);have R:=U0 (o7 (w:=w) (o:=.cells (bsV b q).toArray 35));generalize w.alloc (.cells (bsV b q).toArray 35)=V at*
 go_wp2_with (refine Z9 rfl (Y8 35 _ rfl (B:=w.heap.size) (j:=0) (cs:=(bsV b q)) rfl (fun q v e=>by rw [E8];exact (x.out.cell q).trans e) underlying35 rfl J3) ?_)
 refine (c4 b q 1048576 V O6 O6 HL0.out (n.out.below R.out)).mono ?_;rintro e w1 ⟨⟨r,rfl,hr⟩,a⟩;have t:=U0 (x.out.below a x.out.lt);have y:=U0 (G7 R.out a);have I:=U0 hr;clear hr a x R;by_cases hn:r<0
 · go_wp2;go_ret;exact ⟨rfl,y.out⟩
 have g:=U0 (I.out O0).1;have X:=(I.out O0).2;clear I
 go_upto_region 5 with fail
 go_wp2_with (refine Z9 rfl (Y8 35 _ rfl (B:=w.heap.size) (j:=0) (cs:=(bsV b q)) rfl (fun q v e=>by rw [E8];exact (t.out.cell q).trans e) underlying35 rfl J3) ?_)
 refine (c6 b q w1 g.out (n.out.below y.out)).mono ?_;rintro e w2 ⟨⟨q1,rfl,ha1,Z⟩,a⟩;have N:=U0 (t.out.below a t.out.lt);have B2:=U0 (G7 y.out a);have H5:=U0 (c5 b q1 w2 g.out X Z ha1);clear a t y ha1 Z
 go_wp2_with fail
 refine H5.out.mono ?_;rintro e w3 ⟨E,a⟩;obtain ⟨i,rfl⟩:∃ i,e=.returned (.bool i):=by
  rcases E with ⟨rfl,_⟩ | ⟨_,_,_,r,rfl,_⟩
  · exact ⟨_,rfl⟩
  exact ⟨_,rfl⟩
 have X1:Hid ((i=false/\¬ (Pre b/\1<=b.wd/\b.wd<=8))\/∃ cd m,Out RES (b.sf++b.lo) b.wd cd m/\(i=true↔Pre b/\cd=0/\PN b m)):=by
  rcases E with ⟨e,h⟩ | ⟨cd,m,h1,h2⟩
  · exact .inl ⟨qW e,h⟩
  exact .inr ⟨cd,m,h1,gW h2⟩
 have s:=U0 (N.out.below a N.out.lt);have Q:=U0 (G7 B2.out a);clear a E H5 N B2
 go_upto_region 6 with fail
 go_wp2_with (refine Z9 rfl (Y8 35 _ rfl (B:=w.heap.size) (j:=0) (cs:=(bsV b q)) rfl (fun q v e=>by rw [E8];exact (s.out.cell q).trans e) underlying35 rfl J3) ?_)
 refine (c6 b q w3 g.out (n.out.below Q.out)).mono ?_;rintro e d ⟨⟨c,rfl,ha2,Y⟩,a⟩;have L:=U0 (s.out.below a s.out.lt);have B4:=U0 (G7 Q.out a);have HA2:=U0 ha2;have HC2:=U0 Y;clear a s Q ha2 Y;have HON:Hid (∀ v∈bsV b c,v.oneCell'=true):=by intro v hv;simp [bsV] at hv;rcases hv with rfl|rfl|rfl|rfl|rfl|rfl|rfl|rfl|rfl|rfl|rfl|rfl|rfl|rfl|rfl<;>rfl
 go_upto_region 7 with (refine Z8 rfl 48 _ _ rfl (B:=d.heap.size) (j:=0) rfl (vs:=(bsV b c)) rfl (G6 d [vO,.bool false,vO,vO,vO,vN,vN,vN,vO,vN,vN,vN,vN,vN,vN] 48) x9 HON.out J3 ?_;intro z cz W)
 have O:=U0 ((o7 (w:=d) (o:=.cells #[vO,.bool false,vO,vO,vO,vN,vN,vN,vO,vN,vN,vN,vN,vN,vN] 48)).trans (W.below x9));have p:Hid (Cl z d.heap.size 48 (bsV b c)):=cz;have J:=U0 (L.out.below O.out L.out.lt);have P:=U0 (G7 B4.out O.out);have U:=U0 (HA2.out.below O.out);clear cz W L B4;have H7:=U0 (c7 b c z g.out X HC2.out (HV.out.below P.out) U.out)
 go_wp2_with (refine Z9 rfl (Y8 48 _ rfl (B:=d.heap.size) (j:=0) (cs:=(bsV b c)) rfl (fun q v e=>by rw [E8];exact (p.out.cell q).trans e) underlying48 rfl J3) ?_)
 refine H7.out.mono ?_;rintro e l ⟨D,a⟩;obtain ⟨A,rfl⟩:∃ A,e=.returned (.bool A):=by
  rcases D with ⟨rfl,_⟩ | ⟨_,_,_,r,rfl,_⟩
  · exact ⟨_,rfl⟩
  exact ⟨_,rfl⟩
 obtain rfl:i=A:=jT X1.out (by
  rcases D with ⟨e,h⟩ | ⟨cd,m,h1,h2⟩
  · exact .inl ⟨qW e,h⟩
  exact .inr ⟨cd,m,h1,gW h2⟩)
 have C6:=U0 (J.out.below a J.out.lt);have D6:=U0 (p.out.below a p.out.lt);have A6:=U0 (U.out.below a);have B6:=U0 (G7 P.out a);clear a D H7 X1 J p U P
 go_upto_region 10 with fail
 have C:Bw l l.drew:=(Z4 _ _).drew;have H:Hid (∀ u,Bw l u->Cl u w.heap.size 35 (bsV b q)/\Cl u d.heap.size 48 (bsV b c)):=fun u f=>⟨C6.out.below f C6.out.lt,D6.out.below f D6.out.lt⟩;refine wp_region_held_drew (S:=fun u=>Cl u w.heap.size 35 (bsV b q)/\Cl u d.heap.size 48 (bsV b c)) J3 (H.out _ C) fun hH=>?_;refine tq 0 hH ?_ (hv:=fun u f=>Y8 48 _ rfl (B:=d.heap.size) (j:=0) (cs:=(bsV b c)) rfl (fun q v e=>by rw [E8];exact (f.2.cell q).trans e) underlying48 rfl J3)
 try simp only [qq]
 refine tq 1 hH ?_ (hv:=fun u f=>Y8 35 _ rfl (B:=w.heap.size) (j:=0) (cs:=(bsV b q)) rfl (fun q v e=>by rw [E8];exact (f.1.cell q).trans e) underlying35 rfl J3)
 try simp only [qq]
 refine rq 2 fun K k=>?_;go_simp;refine (c6 b q l.drew g.out (n.out.below (G7 B6.out C))).mono ?_;rintro e w7 ⟨⟨q3,rfl,ha3,_⟩,a⟩;have F:=C.trans (a.mono x9);have A7:=U0 ha3;clear a ha3
 go_wp2_with fail
 refine J8 k (H.out _ F) fun hH=>?_;clear k K;refine rq 3 fun K k=>?_;go_simp;refine (c8 b c q3 w7 g.out (A6.out.below F) A7.out).mono ?_;rintro e w8 ⟨rfl,a⟩;have b8:=G7 F a;clear a
 go_wp2_with fail
 refine J8 k (H.out _ b8) fun hH=>?_;clear k K;refine Y0 4 ?_;refine wdn ?_;go_wp2;go_ret;exact ⟨rfl,G7 B6.out b8⟩
