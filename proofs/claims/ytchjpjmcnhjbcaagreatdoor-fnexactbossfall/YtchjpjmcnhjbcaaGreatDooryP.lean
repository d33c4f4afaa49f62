import Derived.Test.YtchjpjmcnhjbcaaGreatDoorwJ
import Derived.Test.YtchjpjmcnhjbcaaGreatDoorwE
set_option linter.unusedVariables false
set_option maxHeartbeats 8000000
set_option maxRecDepth 100000
namespace Go.Proofs.YtchjpjmcnhjbcaaGreatDoor
open Proofs.Tryz Go.RowKit
variable {b f:Bs} {e:Ending} {A A' B:Nat} {w z:World} {v:Value} {vs:List Value}
theorem a0t (fs:List T.F2):∃ ms,G.Jj fs ms:=by
 by_cases ht:T.G_ fs;rotate_left
 · exact ⟨[],.inl ⟨ht,rfl⟩⟩
 by_cases hf:G.Free fs G.Ir
 · exact ⟨[],.inr (.inl ⟨ht,hf,rfl⟩)⟩
 obtain ⟨i,b,g⟩:∃ i,i<fs.length/\(fs.getD i T.I8).nm=G.Ir:=Classical.byContradiction fun h=>hf fun i b e=>h ⟨i,b,e⟩;obtain ⟨a,ok,f⟩:∃ a ok,G.La (fs.getD i T.I8).tx.data.toList a ok:=by
  by_cases h:∃ js,G.jd js=true/\js.flatMap G.m_=(fs.getD i T.I8).tx.data.toList/\(fs.getD i T.I8).tx.data.toList.length<=300
  · obtain ⟨js,h1,h2,d⟩:=h;exact ⟨js,true,fun _=>⟨h1,h2,d⟩,fun c=>by cases c⟩
  exact ⟨[],false,(fun c=>by cases c),fun _=>⟨rfl,fun js h1 h2=>Nat.lt_of_not_le fun d=>h ⟨js,h1,h2,d⟩⟩⟩
 by_cases h:ok=true/\G.Zl fs a
 · exact ⟨a,.inr (.inr ⟨ht,i,b,g,a,ok,f,.inl ⟨h.1,h.2,rfl⟩⟩)⟩
 exact ⟨[],.inr (.inr ⟨ht,i,b,g,a,ok,f,.inr ⟨h,rfl⟩⟩)⟩
def eU (b:Bs) (m:MS):Prop:=gY b m/\(0<=b.ed/\b.ed<=1000)/\mJ b.rt/\∃ ms,G.Jj b.fs ms/\WC ms b.rn/\mY b
def aO (b:Bs) (m:MS):Prop:=(b.up=true/\eU b m)\/(b.up=false/\iC b)
theorem c18 (b:Bs) (q:Ba) (w:World) (hl:Gj b 1048576) (hsl:b.sf.length+b.lo.length<=1048576) (hcp:yS b q) (hat:Oh w b q):
 Calls prog 18 #[.agg (bsV b q).toArray] w fun e w'=>((e=.returned (.bool false)/\¬ (Pre b/\1<=b.wd/\b.wd<=8))\/∃ cd m,Out RES (b.sf++b.lo) b.wd cd m/\Rb (Pre b/\cd=0/\aO b m) e)/\Bw w w':=by
 have O:=U0 hat;have HL:=U0 hl;have HCP:=U0 hcp;have hhl:=hl.hl;have hrl:=hl.rl;have HES:Hid (∀ i,((b.sf++b.lo).getD i ByteArray.empty).size<=1048576):=fun i=>by
  by_cases h:i<b.sf.length
  · rw [show (b.sf++b.lo).getD i ByteArray.empty=b.sf.getD i ByteArray.empty by simp [List.getD,S_ h]];exact hl.ss i
  · rw [show (b.sf++b.lo).getD i ByteArray.empty=b.lo.getD (i - b.sf.length) ByteArray.empty by simp [List.getD,Ue (Tv h)]];exact hl.ls _
 clear hat hl hcp;go_enter func18,ntmps18
 go_upto_region 1 with fail
 have Z:=U0 (Y4 w (bsV b q) 47);have B0:=U0 (P6 (w:=w) (o:=.cells (bsV b q).toArray 47));generalize w.alloc (.cells (bsV b q).toArray 47)=V at*;have a0:=Z.out.cell 0;have a2:=Z.out.cell 2;have L:=Z.out.cell 11;simp only [@gz Value] at a0 a2 L
 go_wp2_with fail
 refine (lV b.wd V).mono ?_;rintro e V' ⟨rfl,hw⟩;obtain rfl:=hw.symm;by_cases h1:1<=b.wd/\b.wd<=8;rotate_left
 · have F:Hid (¬ (Pre b/\1<=b.wd/\b.wd<=8)):=fun h=>h1 h.2;rw [S9 h1];go_wp2;go_ret;exact ⟨.inl ⟨rfl,F.out⟩,B0.out⟩
 rw [C_ h1]
 go_wp2_with fail
 refine (xG b.hd.length 1 4 V).mono ?_;rintro e V' ⟨rfl,hw⟩;obtain rfl:=hw.symm;by_cases h2:1<=b.hd.length/\b.hd.length<=4;rotate_left
 · have F:Hid (¬ (Pre b/\1<=b.wd/\b.wd<=8)):=fun h=>h2 h.1.2.1;rw [show decide (1<=(b.hd.length:Int)/\(b.hd.length:Int)<=4)=false from S9 O0];go_wp2;go_ret;exact ⟨.inl ⟨rfl,F.out⟩,B0.out⟩
 rw [show decide (1<=(b.hd.length:Int)/\(b.hd.length:Int)<=4)=true from C_ O0]
 go_wp2_with fail
 refine (xG b.now 0 1000000 V).mono ?_;rintro e V' ⟨rfl,hw⟩;obtain rfl:=hw.symm;by_cases h3:0<=b.now/\b.now<=1000000;rotate_left
 · have F:Hid (¬ (Pre b/\1<=b.wd/\b.wd<=8)):=fun h=>h3 h.1.1;rw [S9 h3];go_wp2;go_ret;exact ⟨.inl ⟨rfl,F.out⟩,B0.out⟩
 rw [C_ h3];clear a0 a2 L
 go_upto_region 3 with fail
 go_cut [3] from 4 (fun s3 wx=>∃ A cd m fa ta ra fc tc rc,s3=.pointer (some ⟨A,0,none⟩)/\Hid (MT RES w b q A cd m fa ta ra fc tc rc wx))
 case first=>
  have E:Hid (∀ u,Bw V u->u.cell? ⟨w.heap.size,0,none⟩=some (vI b.wd)/\u.cell? ⟨w.heap.size,5,none⟩=some (vL q.sa b.sf.length q.sc)/\u.cell? ⟨w.heap.size,6,none⟩=some (vL q.la b.lo.length q.lc)):=fun u hu=>have h:=Z.out.below hu Z.out.lt;⟨h.cell 0,h.cell 5,h.cell 6⟩
  have bd:Bw V V.drew:=(Z4 _ _).drew;have HCA:Hid (∀ u,Bw V u->Calls prog 57 #[.agg #[.slice q.sa b.sf.length q.sc,.slice q.la b.lo.length q.lc]] u fun e w'=>(∃ a c,e=.returned (vL a (b.sf++b.lo).length c)/\P7 w' a (b.sf++b.lo))/\Bw u w'):=fun u hu=>c57 b.sf b.lo q.sa q.la q.sc q.lc u hsl (U5 O.out.sf (X5 B0.out hu)) (U5 O.out.lo (X5 B0.out hu));have HCB:Hid (∀ u a c,Bw V u->P7 u a (b.sf++b.lo)->Calls prog 56 #[.slice a (b.sf.length+b.lo.length) c,.int .i64 b.wd] u fun e w'=>(∃ cd m fa fc ta tc ra rc,e=.returned (.agg #[vI cd,vI m.ep,vL fa m.fs.length fc,vI m.s.wd,vL ta m.s.ts.length tc,vL ra m.s.rs.length rc])/\Out RES (b.sf++b.lo) b.wd cd m/\Kp u.heap.size w' fun u=>T.G6 u fa m.fs/\Ig u ta ra m.s)/\Bw u w'):=fun u a c hu h=>by
   have hc:=a2Q a c (b.sf++b.lo) b.wd u (by rw [D9];exact hsl) HES.out h;rw [D9] at hc;exact hc
  have HMK:Hid (∀ (y z:World) (A:Nat) (cd:Int) (m:MS) (fa ta ra:OA) (fc tc rc:Nat),Bw V y->V.heap.size<=A->uy A y z->Cl z A 95 [vI cd,vI m.ep,vL fa m.fs.length fc,vI m.s.wd,vL ta m.s.ts.length tc,vL ra m.s.rs.length rc]->Out RES (b.sf++b.lo) b.wd cd m->T.G6 z fa m.fs/\Ig z ta ra m.s->MT RES w b q A cd m fa ta ra fc tc rc z):=fun y z A cd m fa ta ra fc tc rc h1 h2 h3 h4 W h6=>by
   have h7:=h1.trans (h3.below h2);exact ⟨W,h4,Z.out.below h7 Z.out.lt,h6.1,h6.2,X5 B0.out h7⟩
  refine wp_region_held_drew (S:=fun u=>u.cell? ⟨w.heap.size,0,none⟩=some (vI b.wd)/\u.cell? ⟨w.heap.size,5,none⟩=some (vL q.sa b.sf.length q.sc)/\u.cell? ⟨w.heap.size,6,none⟩=some (vL q.la b.lo.length q.lc)) Y2 (E.out _ bd) fun hH=>?_;refine Y0 0 ?_;refine Y0 1 ?_;refine Y0 3 ?_;refine Y0 4 ?_;refine wpAnyH_ready (rs:=[2,6]) Y2 X4 (AllReadyH.cons (o:=⟨some 25,.call ⟨.value (.func 57),#[.tmp 24],#[37]⟩,22,_,_,none⟩) rfl (fun K d=>?_) (AllReadyH.cons (o:=⟨some 3,.alloc 95,0,_,_,none⟩) rfl (fun K d=>?_) AllReadyH.nil))
  · go_simp;refine (HCA.out _ bd).mono ?_;rintro e y1 ⟨⟨N,k1,rfl,h1⟩,f⟩;have H:=bd.trans f;have S1:=U0 h1;clear h1 f
    go_wp2_with fail
    refine E8 d (E.out _ H) fun hH=>?_;clear d K;refine wpAnyH_ready (rs:=[5,6]) Y2 X4 (AllReadyH.cons (o:=⟨some 28,.call ⟨.value (.func 56),#[.tmp 25,.tmp 27],#[22,3]⟩,95,_,_,none⟩) rfl (fun K d=>?_) (AllReadyH.cons (o:=⟨some 3,.alloc 95,0,_,_,none⟩) rfl (fun K d=>?_) AllReadyH.nil))
    · go_simp;refine (HCB.out y1 N k1 H S1.out).mono ?_;rintro e y2 ⟨⟨cd,m,fa,fc,ta,tc,ra,rc,rfl,ho,r⟩,f⟩;have C:=X5 H f;have l:=U0 ho;have HK:=U0 r;clear ho r f
      go_wp2_with fail
      refine E8 d (E.out _ C) fun hH=>?_;clear d K;refine rq 6 fun K d=>?_;go_simp;have P:=U0 (Y4 y2 [vO,vO,vN,vO,vN,vN] 95);have b3:Bw V (y2.alloc (.cells #[vO,vO,vN,vO,vN,vN] 95)):=C.alloc C.size _;refine E8 d (E.out _ b3) fun hH=>?_;clear d K;refine rq 7 fun K d=>?_;refine t_ rfl 95 _ _ rfl (B:=y2.heap.size) (j:=0) rfl (vs:=[vI cd,vI m.ep,vL fa m.fs.length fc,vI m.s.wd,vL ta m.s.ts.length tc,vL ra m.s.rs.length rc]) rfl P.out H8 (Ij rfl rfl rfl rfl rfl rfl) Y2 ?_;intro z cz D;have t:=U0 (HMK.out _ z y2.heap.size cd m fa ta ra fc tc rc b3 C.size D cz l.out (HK.out z (by have:=D.size;simp at this;omega) (fun q _ hq=>(D.block q O0).trans (Lib.alloc_old y2 _ q hq))));refine E8 d (E.out _ (b3.trans (D.below C.size))) fun hH=>?_;clear d K;refine wdn ?_
      go_wp2_with fail
      go_meet
      case rel=>exact ⟨_,_,_,_,_,_,_,_,_,rfl,t⟩
    go_simp;have P:=U0 (Y4 y1 [vO,vO,vN,vO,vN,vN] 95);have C:Bw V (y1.alloc (.cells #[vO,vO,vN,vO,vN,vN] 95)):=H.alloc H.size _;have S2:=U0 (U5 S1.out (P6 (w:=y1) (o:=.cells #[vO,vO,vN,vO,vN,vN] 95)));refine E8 d (E.out _ C) fun hH=>?_;clear d K;refine rq 5 fun K d=>?_;go_simp;refine (HCB.out _ N k1 C S2.out).mono ?_;rintro e y3 ⟨⟨cd,m,fa,fc,ta,tc,ra,rc,rfl,ho,r⟩,f⟩;have by3:=X5 C f;have l:=U0 ho;have HK:=U0 r;have a4y:=U0 (P.out.below f P.out.lt);have hAl:=U0 P.out.lt;clear ho r f
    go_wp2_with fail
    refine E8 d (E.out _ by3) fun hH=>?_;clear d K;refine rq 7 fun K d=>?_;refine t_ rfl 95 _ _ rfl (B:=y1.heap.size) (j:=0) rfl (vs:=[vI cd,vI m.ep,vL fa m.fs.length fc,vI m.s.wd,vL ta m.s.ts.length tc,vL ra m.s.rs.length rc]) rfl a4y.out H8 (Ij rfl rfl rfl rfl rfl rfl) Y2 ?_;intro z cz D;have t:=U0 (HMK.out _ z y1.heap.size cd m fa ta ra fc tc rc by3 H.size D cz l.out (HK.out.on D hAl.out).now);refine E8 d (E.out _ (by3.trans (D.below H.size))) fun hH=>?_;clear d K;refine wdn ?_
    go_wp2_with fail
    go_meet
    case rel=>exact ⟨_,_,_,_,_,_,_,_,_,rfl,t⟩
  go_simp;have CA0:=U0 (Y4 V.drew [vO,vO,vN,vO,vN,vN] 95);have H:Bw V (V.drew.alloc (.cells #[vO,vO,vN,vO,vN,vN] 95)):=bd.alloc H8 _;refine E8 d (E.out _ H) fun hH=>?_;clear d K;refine rq 2 fun K d=>?_;go_simp;refine (HCA.out _ H).mono ?_;rintro e y2 ⟨⟨N,k1,rfl,h1⟩,f⟩;have C:=X5 H f;have P:=U0 (CA0.out.below f CA0.out.lt);have S1:=U0 h1;clear h1 f
  go_wp2_with fail
  refine E8 d (E.out _ C) fun hH=>?_;clear d K;refine rq 5 fun K d=>?_;go_simp;refine (HCB.out y2 N k1 C S1.out).mono ?_;rintro e y3 ⟨⟨cd,m,fa,fc,ta,tc,ra,rc,rfl,ho,r⟩,f⟩;have by3:=X5 C f;have l:=U0 ho;have HK:=U0 r;have a4y:=U0 (P.out.below f P.out.lt);have hAl:=U0 P.out.lt;clear ho r f
  go_wp2_with fail
  refine E8 d (E.out _ by3) fun hH=>?_;clear d K;refine rq 7 fun K d=>?_;refine t_ rfl 95 _ _ rfl (B:=V.drew.heap.size) (j:=0) rfl (vs:=[vI cd,vI m.ep,vL fa m.fs.length fc,vI m.s.wd,vL ta m.s.ts.length tc,vL ra m.s.rs.length rc]) rfl a4y.out H8 (Ij rfl rfl rfl rfl rfl rfl) Y2 ?_;intro z cz D;have t:=U0 (HMK.out _ z V.drew.heap.size cd m fa ta ra fc tc rc by3 H8 D cz l.out (HK.out.on D hAl.out).now);refine E8 d (E.out _ (by3.trans (D.below H8))) fun hH=>?_;clear d K;refine wdn ?_
  go_wp2_with fail
  go_meet
  case rel=>exact ⟨_,_,_,_,_,_,_,_,_,rfl,t⟩
 obtain ⟨A,cd,m,fa,ta,ra,fc,tc,rc,rfl,t⟩:=hcut;have l:=U0 t.out.out;have CM:=U0 t.out.cm;have CB:=U0 t.out.cb;have BC:=U0 t.out.bel;have HF:=U0 t.out.fl;have HSt:=U0 t.out.st;have HSM:=U0 t.out.out.1;clear t Z B0;have m0:=CM.out.cell 0;simp only [@gz Value] at m0;by_cases hcd:cd=0;rotate_left
 · have F:Hid (¬ (Pre b/\cd=0/\aO b m)):=fun h=>hcd h.2.1;go_wp2;go_ret;exact ⟨.inr ⟨cd,m,l.out,G5 F.out⟩,BC.out⟩
 rw [hcd] at m0;have HCD:=U0 hcd;clear hcd;obtain ⟨bb,off,hc⟩:=ig O.out.hd;have HC:=U0 hc;clear hc
 go_upto_region 6 with fail
 clear m0
 go_wp2_with fail
 go_loopw [4] (fun i wr=>∃ k:Nat,k<=b.hd.length/\i=.int .i64 k/\Hid (∀ j,j<k-> -1<=b.hd.getD j 0/\b.hd.getD j 0<=b.now)/\Below wc.heap.size wc wr) (fun i _=>b.hd.length - (RowKit.intOf i).toNat)
 case atStart=>exact ⟨0,J4 _,rfl,fun j h=>absurd h (J8 _),Z4 _ _⟩
 case round=>
  generalize wr=wo at*;obtain ⟨k,r,rfl,hd,f⟩:=hrel;have x:=U0 (CB.out.below f CB.out.lt);have Q:=U0 (X5 BC.out f);have MW:=U0 (CM.out.below f CM.out.lt);have FW:=U0 (T.J5 HF.out f);have SW:=U0 (HSt.out.below f);have HBW:=U0 f;clear f;have a2:=x.out.cell 2;have L:=x.out.cell 11;simp only [@gz Value] at a2 L;by_cases R:k<b.hd.length
  · obtain ⟨ha,hbw,hcell⟩:=Cc HC.out R;rw [ha] at L;have HAq:=U0 ha;have g0:=(Q.out.cell (p:=⟨bb,off+k,none⟩) hbw).trans (hcell k R);have HD:Hid (-1<=b.hd.getD k 0/\b.hd.getD k 0<=b.now->∀ j,j<k+1-> -1<=b.hd.getD j 0/\b.hd.getD j 0<=b.now):=fun hg j hj=>by
     rcases Q7 j k with h | h
     · exact hd.out j h
     · obtain rfl:j=k:=O0;exact hg
    have F:Hid (¬ (-1<=b.hd.getD k 0/\b.hd.getD k 0<=b.now)->¬ (Pre b/\cd=0/\aO b m)):=fun hg h=>hg (h.1.2.2 k R);generalize b.hd.getD k 0=X at*;clear hcell hd ha;by_cases hx:-1<=X/\X<=b.now
    · have HD1:=U0 (HD.out hx);have H17:Hid (∀ u,Calls prog 55 #[.int .i64 X,.int .i64 (-1),.int .i64 b.now] u fun e w'=>e=.returned (.bool true)/\w'=u):=fun u=>by
       have h:=xG X (-1) b.now u;rw [C_ hx] at h;exact h
      go_wp2_with fail
      go_region_with (go_at_call 55;refine (H17.out _).mono ?_;rintro e w1 ⟨rfl,rfl⟩)
      all_goals go_wp2
      all_goals go_roundw
      all_goals first
       | exact ⟨k+1,O0,by go_num,HD1,HBW.out.drew⟩
       | (simp [RowKit.intOf];omega)
    have n:=U0 (F.out hx);have H17:Hid (∀ u,Calls prog 55 #[.int .i64 X,.int .i64 (-1),.int .i64 b.now] u fun e w'=>e=.returned (.bool false)/\w'=u):=fun u=>by
     have h:=xG X (-1) b.now u;rw [S9 hx] at h;exact h
    go_wp2_with fail
    go_region_with (go_at_call 55;refine (H17.out _).mono ?_;rintro e w1 ⟨rfl,rfl⟩)
    all_goals go_wp2
    all_goals go_ret
    all_goals exact ⟨.inr ⟨cd,m,l.out,G5 n.out⟩,Q.out.drew⟩
  obtain rfl:k=b.hd.length:=O0;have HPR:Hid (Pre b):=⟨h3,h2,hd.out⟩;clear hd R r a2 L;have N:=x.out.cell 1;have L:=x.out.cell 11;simp only [@gz Value] at N L
  cases hup:b.up with
  | false=>
   rw [hup] at N;have HUP:=U0 hup;clear hup
   go_wp2_with (refine Y9 rfl (X8 47 _ rfl (B:=w.heap.size) (j:=0) (cs:=(bsV b q)) rfl (fun q v e=>by rw [L8];exact (x.out.cell q).trans e) underlying47 rfl Y2) ?_)
   refine (c58 b q wo HL.out (O.out.below Q.out)).mono ?_;rintro e w2 ⟨⟨I,rfl,g⟩,U⟩;have HE:Hid (I=true↔Pre b/\cd=0/\aO b m):=⟨fun h=>⟨HPR.out,HCD.out,.inr ⟨HUP.out,g.1 h⟩⟩,fun h=>g.2 (by rcases h.2.2 with ⟨k,_⟩ | ⟨_,k⟩;(rw [HUP.out] at k;cases k);exact k)⟩;have B2:=U0 (X5 Q.out U);clear g U;go_wp2;go_ret;exact ⟨.inr ⟨cd,m,l.out,_,rfl,HE.out⟩,B2.out⟩
  | true=>
  rw [hup] at N;have HUP:=U0 hup;clear hup;have Y:Hid (¬ eU b m->¬ (Pre b/\cd=0/\aO b m)):=fun h k=>by
   rcases k.2.2 with ⟨_,k⟩ | ⟨k,_⟩
   · exact h k
   rw [HUP.out] at k;cases k
  have HYE:Hid (eU b m->Pre b/\cd=0/\aO b m):=fun h=>⟨HPR.out,HCD.out,.inl ⟨HUP.out,h⟩⟩
  go_upto_region 13 with fail
  clear N L;have a3:=x.out.cell 3;have a4:=x.out.cell 4;have a7:=x.out.cell 7;have a8:=x.out.cell 8;have a9:=x.out.cell 9;have a10:=x.out.cell 10;have J:=x.out.cell 12;simp only [@gz Value] at a3 a4 a7 a8 a9 a10 J;have m1:=MW.out.cell 1;have m2:=MW.out.cell 2;have m3:=MW.out.cell 3;have m4:=MW.out.cell 4;have m5:=MW.out.cell 5;simp only [@gz Value] at m1 m2 m3 m4 m5;by_cases W:b.ep=m.ep;rotate_left
  · have n:=U0 (Y.out (fun h=>W h.1.2.1));go_wp2;go_ret;exact ⟨.inr ⟨cd,m,l.out,G5 n.out⟩,Q.out⟩
  have H5:=U0 W;rw [<- W] at m1;clear W;by_cases h6:1<=b.ep;rotate_left
  · have n:=U0 (Y.out (fun h=>h6 h.1.1));go_wp2;go_ret;exact ⟨.inr ⟨cd,m,l.out,G5 n.out⟩,Q.out⟩
  go_wp2_with fail
  refine (xG b.ed 0 1000 wo).mono ?_;rintro e V' ⟨rfl,hw⟩;obtain rfl:=hw.symm;by_cases h7:0<=b.ed/\b.ed<=1000;rotate_left
  · have n:=U0 (Y.out (fun h=>h7 h.2.1));rw [S9 h7];go_wp2;go_ret;exact ⟨.inr ⟨cd,m,l.out,G5 n.out⟩,Q.out⟩
  rw [C_ h7]
  go_wp2_with fail
  refine (c59 b.fs m.fs q.fa fa q.fc fc wo HL.out.fl (G7 HSM.out.fl o6) (T.J5 O.out.fs Q.out) FW.out).mono ?_;rintro e w2 ⟨⟨I,rfl,g⟩,U⟩;have B2:=U0 (X5 Q.out U);have C2:=U0 (x.out.below U x.out.lt);have M2:=U0 (MW.out.below U MW.out.lt);have S2:=U0 (SW.out.below U);clear U a3 a4 a7 a8 a9 a10 J m1 m2 m3 m4 m5
  cases I with
  | false=>
   have n:=U0 (Y.out (fun h=>by have:=g.2 h.1.2.2.1;cases this));clear g;go_wp2;go_ret;exact ⟨.inr ⟨cd,m,l.out,G5 n.out⟩,B2.out⟩
  | true=>
  have HFS:=U0 (g.1 rfl);clear g;have a8:=C2.out.cell 8;have a9:=C2.out.cell 9;have a10:=C2.out.cell 10;simp only [@gz Value] at a8 a9 a10;have m3:=M2.out.cell 3;have m4:=M2.out.cell 4;have m5:=M2.out.cell 5;simp only [@gz Value] at m3 m4 m5
  go_wp2_with fail
  refine (c60 b.s m.s q.ta q.ra ta ra q.tc q.rc tc rc w2 (mX HL.out.st) (a1d HSM.out) (O.out.st.below B2.out) S2.out).mono ?_;rintro e w3 ⟨⟨I,rfl,g⟩,hb3⟩;have B3:=U0 (X5 B2.out hb3);have C3:=U0 (C2.out.below hb3 C2.out.lt);clear hb3 a8 a9 a10 m3 m4 m5
  cases I with
  | false=>
   have n:=U0 (Y.out (fun h=>by have:=g.2 h.1.2.2.2;cases this));clear g;go_wp2;go_ret;exact ⟨.inr ⟨cd,m,l.out,G5 n.out⟩,B3.out⟩
  | true=>
  have HRM:Hid (gY b m):=⟨h6,H5.out,HFS.out,g.1 rfl⟩;clear g;have J:=C3.out.cell 12;simp only [@gz Value] at J;by_cases h8:b.rt.length<=10;rotate_left
  · have n:=U0 (Y.out (fun h=>h8 h.2.2.1.1));have z:(10:Int)<b.rt.length:=O0;go_wp2;go_ret;exact ⟨.inr ⟨cd,m,l.out,G5 n.out⟩,B3.out⟩
  have z:¬ (10:Int)<b.rt.length:=O0
  go_upto_region 15 with fail
  clear J z;obtain ⟨rb,ro,hcr⟩:=K_ O.out.rt;have HCR:=U0 hcr;have HOC:=U0 HCP.out.1;clear hcr
  go_wp2_with fail
  go_loopw [5] (fun i wr=>∃ k:Nat,k<=b.rt.length/\i=.int .i64 k/\Hid (∀ j,j<k->Y5 (b.rt.getD j ByteArray.empty).data.toList=true/\b.rt.getD j ByteArray.empty∉b.rt.take j)/\Below w3.heap.size w3 wr) (fun i _=>b.rt.length - (RowKit.intOf i).toNat)
  case atStart=>exact ⟨0,J4 _,rfl,fun j h=>absurd h (J8 _),Z4 _ _⟩
  case round=>
   obtain ⟨k,r,rfl,hd,f⟩:=hrel;have CZ:=U0 (C3.out.below f C3.out.lt);have BR:=U0 (X5 B3.out f);have HBR:=U0 f;clear f;have J:=CZ.out.cell 12;simp only [@gz Value] at J;by_cases R:k<b.rt.length;rotate_left
   · obtain rfl:k=b.rt.length:=O0;have HRT:Hid (mJ b.rt):=⟨h8,hd.out⟩;obtain ⟨ms,hpt⟩:=a0t b.fs;have HPT:=U0 hpt;clear hd hpt
     go_wp2_with (refine Y9 rfl (X8 47 _ rfl (B:=w.heap.size) (j:=0) (cs:=(bsV b q)) rfl (fun q v e=>by rw [L8];exact (CZ.out.cell q).trans e) underlying47 rfl Y2) ?_)
     refine (c63 b q ms wr HL.out HPT.out (O.out.below BR.out)).mono ?_;rintro e w4 ⟨⟨I,rfl,g⟩,hb4⟩;have B4:=U0 (X5 BR.out hb4);have C4:=U0 (CZ.out.below hb4 CZ.out.lt);clear hb4 J
     cases I with
     | false=>
      have n:=U0 (Y.out (fun h=>by
       obtain ⟨ms',W,h6,_⟩:=h.2.2.2;obtain rfl:=G.Xy W HPT.out;have:=g.2 h6;cases this))
      clear g;go_wp2;go_ret;exact ⟨.inr ⟨cd,m,l.out,G5 n.out⟩,B4.out⟩
     | true=>
     have HRN:=U0 (g.1 rfl);clear g
     go_wp2_with (refine Au rfl 47 _ rfl (B:=w.heap.size) rfl C4.out underlying47 rfl Y2 ?_)
     refine (c64 b q w4 HL.out h3 (O.out.below B4.out)).mono ?_;rintro e w5 ⟨⟨I,rfl,g⟩,hb5⟩;have B5:=U0 (X5 B4.out hb5);have HE:Hid (I=true↔Pre b/\cd=0/\aO b m):=⟨fun h=>HYE.out ⟨HRM.out,h7,HRT.out,ms,HPT.out,HRN.out,g.1 h⟩,fun h=>g.2 (by
      rcases h.2.2 with ⟨_,k⟩ | ⟨k,_⟩
      · obtain ⟨_,_,_,k⟩:=k.2.2.2;exact k
      rw [HUP.out] at k;cases k)⟩
     clear g hb5;go_wp2;go_ret;exact ⟨.inr ⟨cd,m,l.out,_,rfl,HE.out⟩,B5.out⟩
   obtain ⟨ha,hbw,hcell⟩:=Cc HCR.out R;have hvd:Bw wr wr.drew:=(Z4 _ _).drew;have BD:=U0 (X5 BR.out hvd);have HX:=U0 ((BD.out.cell (by exact hbw)).trans (hcell k R));have hsz:=HL.out.rs k;have HD:Hid (Y5 (b.rt.getD k ByteArray.empty).data.toList=true/\b.rt.getD k ByteArray.empty∉b.rt.take k->∀ j,j<k+1->Y5 (b.rt.getD j ByteArray.empty).data.toList=true/\b.rt.getD j ByteArray.empty∉b.rt.take j):=fun hg j hj=>by
    rcases Q7 j k with h | h
    · exact hd.out j h
    · obtain rfl:j=k:=O0;exact hg
   have F:Hid (¬ (Y5 (b.rt.getD k ByteArray.empty).data.toList=true/\b.rt.getD k ByteArray.empty∉b.rt.take k)->¬ (Pre b/\cd=0/\aO b m)):=fun hg=>Y.out (fun h=>hg (h.2.2.1.2 k R));have hcl:=fun s=>G.c62 (some ⟨rb,ro,none⟩) q.oc (b.rt.take k) s wr.drew (by rw [Po r];omega) (MG r (O9 hbw BD.out.size) (fun i hi=>(BD.out.cell (by exact hbw)).trans (hcell i hi)));simp only [Po r] at hcl;have HQ:=U0 hcl;rw [ha] at J;have HAq:=U0 ha;have hkc:k<=q.oc:=by have:=HOC.out;omega
   generalize b.rt.getD k ByteArray.empty=X at*;clear hcell hd hcl ha
   go_wp2_with fail
   refine wp_region_held_drew (S:=fun u=>u.cell? ⟨w.heap.size,12,none⟩=some (vL (some ⟨rb,ro,none⟩) b.rt.length q.oc)/\u.cell? ⟨rb,ro+k,none⟩=some (vS X)) Y2 ⟨(CZ.out.below hvd CZ.out.lt).cell 12|>.trans (by rw [bsV,HAq.out];rfl),HX.out⟩ fun hH=>?_;have hS:=U0 hH;refine Y0 0 ?_;refine Y0 1 ?_;refine Y0 2 ?_;refine Y0 3 ?_;refine Y0 4 ?_;refine rq 5 fun K d=>?_;go_simp;refine (NJ X wr.drew O0).mono ?_;rintro e w7 ⟨rfl,hw7⟩;obtain rfl:=hw7.symm
   go_wp2_with fail
   refine E8 d hS.out fun hH=>?_;clear d K;by_cases hn:Y5 X.data.toList=true;rotate_left
   · have n:=U0 (F.out (fun h=>hn h.1));rw [Fh.2 hn];refine Y0 6 ?_;refine Y0 7 ?_;refine E5 8 ?_;refine E5 9 ?_;refine E5 10 ?_;refine E5 11 ?_;refine E5 12 ?_;refine E5 13 ?_;refine E5 14 ?_;refine E5 15 ?_;refine E5 16 ?_;refine E5 17 ?_;refine Y0 18 ?_;refine wdn ?_;go_wp2;go_ret;exact ⟨.inr ⟨cd,m,l.out,G5 n.out⟩,BD.out⟩
   rw [hn];refine Y0 6 ?_;refine Y0 7 ?_;refine Y0 8 ?_;refine Y0 9 ?_;refine Y0 10 ?_;refine Y0 11 ?_;refine Y0 12 ?_;refine Y0 13 ?_;refine Y0 14 ?_;refine Y0 15 ?_;refine Y0 16 ?_;refine rq 17 fun K d=>?_;go_simp;refine (HQ.out X).mono ?_;rintro e w7 ⟨rfl,hw7⟩;obtain rfl:=hw7.symm
   go_wp2_with fail
   refine E8 d hS.out fun hH=>?_;clear d K;by_cases hm:X∈b.rt.take k
   · have n:=U0 (F.out (fun h=>h.2 hm));rw [G.Lh.2 hm];refine Y0 18 ?_;refine wdn ?_;go_wp2;go_ret;exact ⟨.inr ⟨cd,m,l.out,G5 n.out⟩,BD.out⟩
   have HD1:=U0 (HD.out ⟨hn,hm⟩);rw [Fh.2 (fun h=>hm (G.Lh.1 h))];refine Y0 18 ?_;refine wdn ?_;go_wp2;go_roundw
   case rel=>exact ⟨k+1,O0,by go_num,HD1,HBR.out.drew⟩
   case measure=>simp [RowKit.intOf];omega
theorem Uh {α:Type} {l:List α} {d:α} {f:α->ByteArray} (h:∀ i,i<l.length->0<i->Op.bytesLess (f (l.getD (i - 1) d)).toList (f (l.getD i d)).toList=true):∀ (j i:Nat),i<j->j<l.length->Op.bytesLess (f (l.getD i d)).toList (f (l.getD j d)).toList=true
 | 0,i,h1,_=>absurd h1 (J8 _)
 | j+1,i,h1,h2=>by
  have a:=h (j+1) h2 O0;rw [VI] at a;by_cases e:i=j
  · rw [e];exact a
  exact T.Bq _ _ _ (Uh h j i O0 O0) a
theorem LP {ms:List M3} (hr:WC ms b.rn):mY b↔JbI b:=by
 have o:=Uh (l:=b.rn) (d:=X_) (f:=fun x=>x.nm) (fun i a h0=>(hr i a).2.2 h0);constructor
 · intro h i a;have p:=Uh (l:=b.jb) (d:=Jc) (f:=fun x=>x.nm) (fun i a h0=>(h i a).2.1 h0);obtain ⟨⟨t,h1,h2,_,c⟩,_,k,r,q⟩:=h i a;refine ⟨fun m n ho=>?_,⟨t,h1,h2,c⟩,k,r⟩;rcases ho with ho | ho
   · exact q m n ho
   rw [p i m n a] at ho;cases ho
 · intro h i a;obtain ⟨h1,⟨t,h2,c⟩,s,k⟩:=h i a;refine ⟨⟨t,h2,c.1,fun j g e=>?_,c.2⟩,fun h0=>?_,s,k,fun j g e=>h1 j g (.inl e)⟩
   · have hl:=o t j g h2;rw [c.1,e] at hl;rw [T.zo] at hl;cases hl
   cases hq:Op.bytesLess (b.jb.getD (i - 1) Jc).nm.toList (b.jb.getD i Jc).nm.toList with
   | true=>rfl
   | false=>exact absurd (.inr hq) (h1 (i - 1) O0)
/-- What the two say of a a5y. -/
def VSp (b:Bs) (r:Bool):Prop:=(r=false/\¬ (Pre b/\1<=b.wd/\b.wd<=8))\/∃ cd m,Out RES (b.sf++b.lo) b.wd cd m/\(r=true↔Pre b/\cd=0/\aO b m)
def VIm (b:Bs) (r:Bool):Prop:=(r=false/\¬ Pre b)\/∃ cd m,Out RE (b.sf++b.lo) b.wd cd m/\(r=true↔Pre b/\cd=0/\VM b m)
theorem GU {m:MS}:eU b m↔Upp b m:=by
 constructor
 · rintro ⟨h1,h2,e,ms,d,a,c⟩;exact ⟨h1,h2,e,ms,d,a,(LP a).1 c⟩
 · rintro ⟨h1,h2,e,ms,d,a,c⟩;exact ⟨h1,h2,e,ms,d,a,(LP a).2 c⟩
theorem rJ {c a:Bool} (h1:VSp b c) (h2:VIm b a):c=a:=by
 rcases h1 with ⟨rfl,h1⟩ | ⟨cd,m,o1,h1⟩
 · rcases h2 with ⟨rfl,_⟩ | ⟨cd,m,o2,h2⟩
   · rfl
   cases a with
   | false=>rfl
   | true=>
    obtain ⟨d,k2,_⟩:=h2.1 rfl;rcases o2.2 with ⟨_,k,_⟩ | ⟨k,_⟩
    · omega
    exact absurd ⟨d,k.1⟩ h1
 rcases h2 with ⟨rfl,h2⟩ | ⟨cd',m',o2,h2⟩
 · cases c with
   | false=>rfl
   | true=>exact absurd (h1.1 rfl).1 h2
 obtain ⟨rfl,rfl⟩:=vV o1 o2;have e:aO b m'↔VM b m':=by
  unfold aO VM;rw [GU]
 rw [Bool.eq_iff_iff,h1,h2,e]
theorem tY (h:(e=.returned (.bool false)/\¬ (Pre b/\1<=b.wd/\b.wd<=8))\/∃ cd m,Out RES (b.sf++b.lo) b.wd cd m/\Rb (Pre b/\cd=0/\aO b m) e):∃ r,e=.returned (.bool r)/\VSp b r:=by
 rcases h with ⟨rfl,h⟩ | ⟨cd,m,h1,r,rfl,h2⟩
 · exact ⟨_,rfl,.inl ⟨rfl,h⟩⟩
 exact ⟨r,rfl,.inr ⟨cd,m,h1,h2⟩⟩
theorem XY (h:(e=.returned (.bool false)/\¬ Pre b)\/∃ cd m,Out RE (b.sf++b.lo) b.wd cd m/\Rb (Pre b/\cd=0/\VM b m) e):∃ r,e=.returned (.bool r)/\VIm b r:=by
 rcases h with ⟨rfl,h⟩ | ⟨cd,m,h1,r,rfl,h2⟩
 · exact ⟨_,rfl,.inl ⟨rfl,h⟩⟩
 exact ⟨r,rfl,.inr ⟨cd,m,h1,h2⟩⟩
theorem zW (h:VIm b true):Pre b:=by
 rcases h with ⟨h,_⟩ | ⟨_,_,_,h⟩
 · cases h
 exact (h.1 rfl).1
theorem XT (h:VSp b true):Pre b:=by
 rcases h with ⟨h,_⟩ | ⟨_,_,_,h⟩
 · cases h
 exact (h.1 rfl).1
theorem jS (h:Pre b):1<=b.hd.length/\b.hd.length<=4:=h.2.1
theorem Rz.on {n:Nat} {t:TypeId} (h:Rz A w.heap.size w t v n) (o:uy B w z) (hB:B<A) (hA:A'<=A):Rz A' z.heap.size z t v n:=h.imp id fun ⟨g,d,xs,h1,h2,c,b,a⟩=>⟨g,d,xs,h1,O0,by rw [o.size];exact c,b.on o O0,a⟩
theorem Fl.on (h:Fl A w f v) (o:uy B w z) (hB:B<A) (hA:A'<=A):Fl A' z f v:=by
 obtain ⟨sa,sc,ha,hc,e,k,b,a⟩:=h;exact ⟨sa,sc,ha,hc,e,(k.on o hB).low hA,b.on o hB hA,a.on o hB hA⟩
theorem WZ (h:Fl A w f v):∃ vs:List Value,v=.agg vs.toArray/\vs.length=15/\vs.all Value.oneCell'=true:=by
 obtain ⟨sa,sc,ha,hc,e,_⟩:=h;exact ⟨_,e,rfl,rfl⟩
theorem OW {xs:List Value} (h:vs.length=xs.length):Um xs 0 vs=vs:=by
 unfold Um;rw [L8,h];simp
theorem i47 (h:vs.length=15):(prog.info? 47).map (·.size)=some vs.length:=by rw [h];exact Y2
theorem UJ:Fl A w (Ip 0 0 [] []) (.agg bz.toArray):=⟨none,0,none,0,rfl,fun u _ _=>nT (.inl rfl) (.inl rfl),.inl ⟨rfl,rfl⟩,.inl ⟨rfl,rfl⟩⟩
/-- What is left behind a fall, of a a5y that is valid or not. -/
def fb (b:Bs) (keep:Int) (r:Bool):Bs:=if r then Ip b.wd b.now (b.sf++b.lo.take (ZX keep b.lo.length)) (List.replicate b.hd.length (-1)) else Ip 0 0 [] []
def Fb (b:Bs) (keep:Int) (r:Bool) (A:Nat) (w':World) (v:Value):Prop:=Fl A w' (fb b keep r) v
theorem c7 (b:Bs) (q:Ba) (keep:Int) (w:World) (hl:Gj b 1048576) (k:b.sf.length+b.lo.length<=1048576) (l:yS b q) (hv:G.Vr w) (m:Oh w b q):
 Calls prog 7 #[.agg (bsV b q).toArray,.int .i64 keep] w fun e w'=>(∃ r v,VIm b r/\e=.returned v/\Fb b keep r w.heap.size w' v)/\Bw w w':=by
 have p:=U0 m;have u:=U0 hl;have t:=U0 hv;clear m hl hv;go_enter func7,ntmps7
 go_upto_region 1 with fail
 have C:=U0 (G9 (Y4 w (bsV b q) 47) (.cells bz.toArray 47));have R:=U0 (show Cl ((w.alloc (.cells (bsV b q).toArray 47)).alloc (.cells bz.toArray 47)) (w.heap.size+1) 47 bz by have h:=Y4 (w.alloc (.cells (bsV b q).toArray 47)) bz 47;simpa using h);have a:Hid (Bw w ((w.alloc (.cells (bsV b q).toArray 47)).alloc (.cells bz.toArray 47))):=P6.alloc X4 _;generalize (w.alloc (.cells (bsV b q).toArray 47)).alloc (.cells bz.toArray 47)=V at*
 go_wp2_with (refine U9 C.out rfl 47 _ rfl (j:=0) (bsV b q) rfl rfl underlying47 rfl Y2 ?_)
 refine (XU b q V u.out k l (t.out.below a.out) (p.out.below a.out)).mono ?_;rintro e V1 ⟨n,c⟩;obtain ⟨r,rfl,hr⟩:=XY n;have i:=U0 hr
 replace C:=U0 (C.out.below c C.out.lt)
 replace R:=U0 (R.out.below c R.out.lt)
 replace a:=U0 (X5 a.out c)
 clear c n hr;cases r
 · go_wp2_with (refine y9 rfl 47 _ _ rfl (B:=w.heap.size+1) (j:=0) rfl (vs:=bz) rfl R.out H8 (o8 rfl) Y2 ?_;intro z f d)
   exact Y6 (Q8 (P:=prog) (ty:=47) rfl _ z (w.heap.size+1) bz _ rfl f.blk underlying47 rfl Y2) rfl ⟨⟨false,_,i.out,rfl,UJ⟩,a.out.trans (d.below O0)⟩
 go_upto_region 3 with fail
 go_wp2_with (refine U9 C.out rfl 47 _ rfl (j:=0) (bsV b q) rfl rfl underlying47 rfl Y2 ?_)
 refine (c28 b q keep V1 k (jS (zW i.out)) l.2.2 (p.out.below a.out)).mono ?_;rintro e V2 ⟨⟨v,rfl,hF⟩,c⟩;obtain ⟨vs,rfl,o,h1⟩:=WZ hF;have x:=U0 hF;have y:=U0 h1;have g:=U0 o;have s:=R.out.lt;have A:=a
 replace R:=U0 (R.out.below c R.out.lt)
 replace a:=U0 (X5 a.out c)
 clear c hF h1 o
 go_wp2_with (refine y9 rfl 47 _ _ rfl (B:=w.heap.size+1) (j:=0) rfl (vs:=vs) rfl R.out (by rw [g.out];decide) (o8 y.out) (i47 g.out) ?_;intro z f d;rw [OW g.out] at f)
 exact Y6 (Q8 (P:=prog) (ty:=47) rfl _ z (w.heap.size+1) vs _ rfl f.blk underlying47 rfl (i47 g.out)) rfl ⟨⟨true,_,i.out,rfl,x.out.on d s A.out.size⟩,a.out.trans (d.below O0)⟩
theorem c5 (b:Bs) (q:Ba) (keep:Int) (w:World) (hl:Gj b 1048576) (hsl:b.sf.length+b.lo.length<=1048576) (Y:yS b q) (J:Oh w b q):
 Calls prog 5 #[.agg (bsV b q).toArray,.int .i64 keep] w fun e w'=>(∃ r v,VSp b r/\e=.returned v/\Fb b keep r w.heap.size w' v)/\Bw w w':=by
 have HA:=U0 J;have HL:=U0 hl;obtain ⟨k,I,hk2⟩:∃ k:Nat,ZX keep b.lo.length=k/\k<=b.lo.length:=⟨_,rfl,by unfold ZX;split<;>omega⟩;have HMX:=U0 (show min (max keep 0) (b.lo.length:Int)=(k:Int) by rw [<- I];unfold ZX;split<;>omega);have HK:=U0 I;have X:(b.lo.take k).length=k:=by simp;omega
 have HT:=U0 (WB J.lo k);clear J hl I;go_enter func5,ntmps5
 go_upto_region 1 with fail
 have C:=U0 (G9 (Y4 w (bsV b q) 47) (.cells bz.toArray 47));have R:=U0 (show Cl ((w.alloc (.cells (bsV b q).toArray 47)).alloc (.cells bz.toArray 47)) (w.heap.size+1) 47 bz by have h:=Y4 (w.alloc (.cells (bsV b q).toArray 47)) bz 47;simpa using h);have d:Hid (Bw w ((w.alloc (.cells (bsV b q).toArray 47)).alloc (.cells bz.toArray 47))):=P6.alloc X4 _;generalize (w.alloc (.cells (bsV b q).toArray 47)).alloc (.cells bz.toArray 47)=V at*
 go_wp2_with (refine U9 C.out rfl 47 _ rfl (j:=0) (bsV b q) rfl rfl underlying47 rfl Y2 ?_)
 refine (c18 b q V HL.out hsl Y (HA.out.below d.out)).mono ?_;rintro e V1 ⟨Z,g⟩;obtain ⟨r,rfl,hr⟩:=tY Z;have W:=U0 hr
 replace C:=U0 (C.out.below g C.out.lt)
 replace R:=U0 (R.out.below g R.out.lt)
 replace d:=U0 (X5 d.out g)
 clear g Z hr;cases r
 · go_wp2_with (refine y9 rfl 47 _ _ rfl (B:=w.heap.size+1) (j:=0) rfl (vs:=bz) rfl R.out H8 (o8 rfl) Y2 ?_;intro z N i)
   exact Y6 (Q8 (P:=prog) (ty:=47) rfl _ z (w.heap.size+1) bz _ rfl N.blk underlying47 rfl Y2) rfl ⟨⟨false,_,W.out,rfl,UJ⟩,d.out.trans (i.below O0)⟩
 have hh:=U0 (jS (XT W.out))
 go_upto_if 11 with fail
 go_cut [1] from 6 (fun s H=>s=vI (max keep 0)/\H=V1)
 case first=>
  by_cases hn:keep<0
  · go_wp2_with fail
    go_meet
    case rel=>exact ⟨by rw [Int.max_eq_right O0],rfl⟩
  go_wp2_with fail
  go_meet
  case rel=>exact ⟨by rw [Int.max_eq_left O0],rfl⟩
 obtain ⟨rfl,hw⟩:=hcut;obtain rfl:=hw.symm
 go_upto_if 17 with (refine U8 C.out rfl _ _ rfl rfl rfl Y2 ?_)
 go_cut [1] from 6 (fun s H=>s=vI k/\H=V1)
 case first=>
  by_cases hn:(b.lo.length:Int)<max keep 0
  · go_wp2_with (refine U8 C.out rfl _ _ rfl rfl rfl Y2 ?_)
    go_meet
    case rel=>exact ⟨by rw [<- HMX.out,Int.min_eq_right O0],rfl⟩
  go_wp2_with fail
  go_meet
  case rel=>exact ⟨by rw [<- HMX.out,Int.min_eq_left O0],rfl⟩
 obtain ⟨rfl,hw⟩:=hcut;obtain rfl:=hw.symm
 go_upto_region 7 with fail
 have hk3:(k:Int)<=(q.lc:Int):=(by have:=Y.2.2;omega);have hk4:(0:Int)<=k:=O0;have hd:Bw V1 V1.drew:=(Z4 _ _).drew;have l:Hid (∀ u,Cl u w.heap.size 47 (bsV b q)->u.cell? (aW w 0)=some (vI b.wd)/\u.cell? (aW w 2)=some (vI b.now)/\u.cell? (aW w 5)=some (vL q.sa b.sf.length q.sc)/\u.cell? (aW w 6)=some (vL q.la b.lo.length q.lc)/\u.cell? (aW w 11)=some (vL q.ha b.hd.length q.hc)):=fun u h=>⟨h.cell 0,h.cell 2,h.cell 5,h.cell 6,h.cell 11⟩;refine wp_region_held_drew (S:=fun u=>u.cell? (aW w 0)=some (vI b.wd)/\u.cell? (aW w 2)=some (vI b.now)/\u.cell? (aW w 5)=some (vL q.sa b.sf.length q.sc)/\u.cell? (aW w 6)=some (vL q.la b.lo.length q.lc)/\u.cell? (aW w 11)=some (vL q.ha b.hd.length q.hc)) Y2 (l.out _ (C.out.below hd C.out.lt)) fun hH=>?_;refine Y0 1 ?_;refine Y0 2 ?_;refine Y0 3 ?_;refine Y0 5 ?_;refine Y0 6 ?_;refine Y0 7 ?_;refine Y0 8 ?_;refine Y0 9 ?_;refine rq 0 fun K f=>?_;go_simp;have Q:=U0 (row0 (base:=V1.heap.size) V1.drew 9 1 rfl H8);have n:Bw V1 (V1.drew.alloc (.cells #[] 9)):=hd.alloc H8 _;refine E8 f (l.out _ (C.out.below n C.out.lt)) fun hH=>?_;clear f K;refine rq 4 fun K f=>?_;refine Aa rfl _ _ 22 rfl V1.heap.size 9 1 underlying22 xE o6 _ 0 [] rfl Q.out _ b.sf.length (b.sf.map .string) rfl (wM HA.out.sf (X5 d.out n)) (Ii _) O0 n.size ?_;intro v1 y1 U g1 e1;rw [L8,Ua] at U;have m:=Bg n g1 n.size (fun k e=>J6 Q.out e);have O:=U0 U;clear U g1 e1 Q n;refine E8 f (l.out _ (C.out.below m C.out.lt)) fun hH=>?_;clear f K;refine rq 10 fun K f=>?_;refine Aa rfl _ _ 22 rfl V1.heap.size 9 1 underlying22 xE o6 _ b.sf.length (b.sf.map .string) rfl O.out _ k ((b.lo.take k).map .string) rfl (by have h:=wM (c:=q.lc) HT.out (X5 d.out m);rw [X] at h;exact h) (Ii _) O0 m.size ?_;intro v2 E o g2 e2;have y:=Bg m g2 m.size (fun k e=>J6 O.out e);rw [<- Og,show b.sf.length+k=(b.sf++b.lo.take k).length by rw [D9,X]] at o;obtain ⟨D,n1,x,rfl⟩:∃ D n1 x,v2=vL D n1 x:=by obtain ⟨a,c,e⟩:=I_ o;exact ⟨a,_,c,e⟩
 have p:=U0 (Ru (A':=w.heap.size+2) o (Z4 _ _) (by have:=R.out.lt;omega))
 replace C:=U0 (C.out.below y C.out.lt)
 replace R:=U0 (R.out.below y R.out.lt)
 replace d:=U0 (X5 d.out y)
 clear o g2 e2 O m y;refine E8 f (l.out _ C.out) fun hH=>?_;clear f K;refine Y0 11 ?_;refine wdn ?_
 go_upto_region 8 with fail
 have t:Bw E E.drew:=(Z4 _ _).drew
 replace C:=U0 (C.out.below t C.out.lt)
 replace R:=U0 (R.out.below t R.out.lt)
 replace d:=U0 (X5 d.out t)
 replace p:=U0 (Ru p.out t H8)
 refine wp_region_held_drew (S:=fun u=>u.cell? (aW w 0)=some (vI b.wd)/\u.cell? (aW w 2)=some (vI b.now)/\u.cell? (aW w 5)=some (vL q.sa b.sf.length q.sc)/\u.cell? (aW w 6)=some (vL q.la b.lo.length q.lc)/\u.cell? (aW w 11)=some (vL q.ha b.hd.length q.hc)) Y2 (l.out _ C.out) fun hH=>?_;generalize E.drew=y3 at*;refine Y0 0 ?_;refine Y0 1 ?_;refine Y0 2 ?_;refine Y0 3 ?_;refine Y0 4 ?_;refine Y0 5 ?_;refine Y0 6 ?_;refine Y0 7 ?_;refine Y0 8 ?_;refine rq 9 fun K f=>?_;go_simp;refine (c19 b.hd.length y3 (by have:=hh.out;omega)).mono ?_;rintro e y4 ⟨⟨v4,rfl,L⟩,g⟩;obtain ⟨a2,c2,rfl⟩:=I_ L;have o:=U0 (Ru (A':=w.heap.size+2) L (Z4 _ _) (by have:=R.out.lt;omega))
 replace p:=U0 (Ru p.out g H8)
 replace C:=U0 (C.out.below g C.out.lt)
 replace R:=U0 (R.out.below g R.out.lt)
 replace d:=U0 (X5 d.out g)
 clear g L
 go_wp2_with fail
 refine E8 f (l.out _ C.out) fun hH=>?_;clear f K;refine Y0 10 ?_;refine rq 11 fun K f=>?_;refine t_ rfl 47 _ _ rfl (B:=w.heap.size+1) (j:=0) rfl (vs:=[vI b.wd,.bool false,vI b.now,vO,vO,vL D n1 x,vN,vN,vO,vN,vN,vL a2 b.hd.length c2,vN,vN,vN]) rfl R.out H8 (o8 rfl) Y2 ?_;intro z N i;have F:=U0 (XQ (A:=w.heap.size) (wd:=b.wd) (now:=b.now) (S:=b.sf++b.lo.take k) (Hd:=List.replicate b.hd.length (-1)) (rF p.out i O0 O0) (by rw [XG,Uy];exact rF o.out i O0 O0))
 replace C:=U0 (C.out.on i O0)
 replace d:=U0 (d.out.trans (i.below O0))
 clear i;refine E8 f (l.out _ C.out) fun hH=>?_;clear f K;refine wdn ?_;go_wp2;exact bodyPost_ret (Q8 (P:=prog) (ty:=47) rfl _ z (w.heap.size+1) [vI b.wd,.bool false,vI b.now,vO,vO,vL D n1 x,vN,vN,vO,vN,vN,vL a2 b.hd.length c2,vN,vN,vN] _ rfl N.blk underlying47 rfl Y2) rfl ⟨⟨true,_,W.out,rfl,by unfold Fb fb;rw [HK.out];exact F.out⟩,d.out⟩
theorem a0a {wd now:Int} {S:LB} {Hd:List Int} (h1:S.length<=1048576) (h2:∀ i,(S.getD i ByteArray.empty).size<=1048576) (a:Hd.length<=1048576):Gj (Ip wd now S Hd) 1048576:=
 ⟨h1,h2,J4 _,fun i=>J4 _,J4 _,fun i=>⟨J4 _,J4 _⟩,⟨⟨J4 _,fun i=>J4 _⟩,J4 _,fun i=>⟨J4 _,J4 _,fun i=>⟨J4 _,J4 _⟩,J4 _⟩⟩,a,J4 _,fun i=>J4 _,J4 _,fun i=>⟨J4 _,J4 _,⟨J4 _,fun i=>⟨J4 _,J4 _⟩⟩,J4 _⟩,J4 _,fun i=>J4 _⟩
theorem rU (b:Bs) (keep:Int) (r:Bool) (hl:Gj b 1048576) (hsl:b.sf.length+b.lo.length<=1048576):∃ wd now S Hd,fb b keep r=Ip wd now S Hd/\S.length<=1048576/\(∀ i,(S.getD i ByteArray.empty).size<=1048576)/\Hd.length<=1048576:=by
 cases r
 · exact ⟨0,0,[],[],rfl,J4 _,fun i=>J4 _,J4 _⟩
 refine ⟨_,_,_,_,rfl,by simp;omega,fun i=>?_,by simpa using hl.hl⟩;simp only [List.getD,List.getElem?_append];split
 · exact hl.ss i
 have h:=hl.ls (i - b.sf.length);rw [Zx];split
 · exact h
 exact J4 _
theorem BsO.below {w':World} {q:Ba} (h:BsO A B w b q) (k:Bw w w'):BsO A B w' b q:=
 have m:=Md.of (A:=0) (B:=0) (S:=[]) k
 ⟨h.sf.md m,h.lo.md m,h.fs.md m,h.ts.md m,h.rs.md m Sm,h.hd.md m,h.rt.md m,h.rn.md m Sm,h.jb.md m⟩
theorem c3 (b:Bs) (q:Ba) (keep:Int) (w:World) (hl:Gj b 9223372036854775807) (hv:G.Vr w) (hat:Oh w b q):
 Calls prog 3 #[.agg (bsV b q).toArray,.int .i64 keep] w fun e w'=>e=.returned (.bool true)/\Bw w w':=by
 have W:=U0 hat;have HL0:=U0 hl;have HV:=U0 hv;clear hat hl hv;go_enter func3,ntmps3
 go_upto_region 2 with fail
 have n:=U0 (Y4 w (bsV b q) 35);have I:=U0 (P6 (w:=w) (o:=.cells (bsV b q).toArray 35));generalize w.alloc (.cells (bsV b q).toArray 35)=V at*
 go_wp2_with (refine U9 n.out rfl 35 _ rfl (j:=0) (bsV b q) rfl rfl underlying35 rfl Y2 ?_)
 refine (c4 b q 1048576 V o6 o6 HL0.out (W.out.below I.out)).mono ?_;rintro e w1 ⟨⟨r0,rfl,hr⟩,a⟩
 replace n:=U0 (n.out.below a n.out.lt)
 replace I:=U0 (X5 I.out a)
 have HR:=U0 hr;clear hr a;by_cases hn:r0<0
 · go_wp2;go_ret;exact ⟨rfl,I.out⟩
 have J:=U0 (HR.out O0).1;have hsl:=(HR.out O0).2;clear HR HL0
 go_upto_region 5 with fail
 go_wp2_with (refine U9 n.out rfl 35 _ rfl (j:=0) (bsV b q) rfl rfl underlying35 rfl Y2 ?_)
 refine (c6 b q w1 J.out (W.out.below I.out)).mono ?_;rintro e w2 ⟨⟨q1,rfl,ha1,hc1,_⟩,a⟩;have H5:=U0 (c5 b q1 keep w2 J.out hsl hc1 ha1)
 replace n:=U0 (n.out.below a n.out.lt)
 replace I:=U0 (X5 I.out a)
 clear a ha1 hc1
 go_wp2_with fail
 refine H5.out.mono ?_;rintro e w3 ⟨⟨r,v0,hvr,rfl,hF⟩,a⟩;obtain ⟨d,fn,S,Hd,hfb,f1,f2,f3⟩:=rU b keep r J.out hsl;unfold Fb at hF;rw [hfb] at hF;obtain ⟨sa,sc,ha,hc,rfl,k0,_,_⟩:=hF;have HFB:=U0 hfb;have VR:=U0 hvr;have HLF:Hid (Gj (Ip d fn S Hd) 1048576):=a0a f1 f2 f3;have A0:=U0 k0.now
 replace n:=U0 (n.out.below a n.out.lt)
 replace I:=U0 (X5 I.out a)
 clear a hfb hvr k0 H5 f2
 go_upto_region 6 with (refine y9 rfl 47 _ _ rfl (B:=w3.heap.size) (j:=0) rfl (vs:=bsV (Ip d fn S Hd) (qF sa sc ha hc)) rfl (Y4 w3 bz 47) H8 (o8 rfl) Y2 ?_;intro z k F)
 have l:Hid (∀ u,Bw z u->(Cl u w.heap.size 35 (bsV b q)/\Cl u w3.heap.size 47 (bsV (Ip d fn S Hd) (qF sa sc ha hc)))/\Oh u (Ip d fn S Hd) (qF sa sc ha hc)/\Bw w u):=by
  have bz:=P6.trans (F.below H8);exact fun u i=>⟨⟨(n.out.below bz n.out.lt).below i (O9 n.out.lt bz.size),k.below i k.lt⟩,(A0.out.below bz).below i,X5 (X5 I.out bz) i⟩
 clear k F n I A0
 go_wp2_with (refine U9 (l.out _ (Z4 _ _)).1.1 rfl 35 _ rfl (j:=0) (bsV b q) rfl rfl underlying35 rfl Y2 ?_)
 refine (c6 b q z J.out (W.out.below (l.out _ (Z4 _ _)).2.2)).mono ?_;rintro e L ⟨⟨C,rfl,ha2,hc2,ho2⟩,a⟩
 go_upto_region 7 with (refine y9 rfl 47 _ _ rfl (B:=L.heap.size) (j:=0) rfl (vs:=bsV b C) rfl (Y4 L bz 47) H8 (o8 rfl) Y2 ?_;intro Y k F)
 have p:Hid (∀ u,Bw Y u->Cl u L.heap.size 47 (bsV b C)/\Oh u b C/\BsO z.heap.size L.heap.size u b C/\Bw z u):=by
  have bz:=P6.trans (F.below H8);exact fun u i=>⟨k.below i k.lt,(ha2.below bz).below i,(ho2.below bz).below i,X5 (X5 a bz) i⟩
 have hz4:=k.lt;have HC2:=U0 hc2;have a5v:=(p.out _ (Z4 _ _)).2.2.2.size;clear k F ha2 hc2 ho2 a
 go_wp2_with (refine U9 (p.out _ (Z4 _ _)).1 rfl 47 _ rfl (j:=0) (bsV b C) rfl rfl underlying47 rfl Y2 ?_)
 refine (c7 b C keep Y J.out hsl HC2.out (HV.out.below (l.out _ (p.out _ (Z4 _ _)).2.2.2).2.2) (p.out _ (Z4 _ _)).2.1).mono ?_;rintro e P ⟨⟨r2,v7,hv2,rfl,hF⟩,a⟩;obtain rfl:r=r2:=rJ VR.out hv2;unfold Fb at hF;rw [HFB.out] at hF;obtain ⟨t,s,y,x,rfl,k7,rs7,rh7⟩:=hF
 go_upto_region 8 with (refine y9 rfl 47 _ _ rfl (B:=P.heap.size) (j:=0) rfl (vs:=bsV (Ip d fn S Hd) (qF t s y x)) rfl (Y4 P bz 47) H8 (o8 rfl) Y2 ?_;intro z5 k F)
 have R:=P6.trans (F.below H8);have B5:=U0 (X5 a R);have g:Hid (Kp Y.heap.size z5 (fun u=>Cl u P.heap.size 47 (bsV (Ip d fn S Hd) (qF t s y x))/\Oh u (Ip d fn S Hd) (qF t s y x))):=fun u h1 h2=>⟨(WX k a.size) u h1 h2,(k7.below R) u h1 h2⟩;have RS:=U0 (rs7.md (Md.of (A:=0) (B:=0) (S:=[]) R));have O:=U0 (rh7.md (Md.of (A:=0) (B:=0) (S:=[]) R));have hz5:=k.lt;have a6G:=a.size;clear k F a R k7 rs7 rh7 hv2
 go_wp2_with (first | (refine U9 g.out.now.1 rfl 47 _ rfl (j:=0) (bsV (Ip d fn S Hd) (qF t s y x)) rfl rfl underlying47 rfl Y2 ?_) | (refine U9 (l.out _ (p.out _ B5.out).2.2.2).1.2 rfl 47 _ rfl (j:=0) (bsV (Ip d fn S Hd) (qF sa sc ha hc)) rfl rfl underlying47 rfl Y2 ?_))
 refine (c8 (Ip d fn S Hd) (qF t s y x) (qF sa sc ha hc) z5 HLF.out g.out.now.2 (l.out _ (p.out _ B5.out).2.2.2).2.1).mono ?_;rintro e Z ⟨rfl,a⟩;have H:=U0 (X5 B5.out a)
 replace g:=U0 (g.out.below a)
 have N:=U0 a;clear a B5
 go_upto_region 10 with fail
 have hd:Bw Z Z.drew:=(Z4 _ _).drew;have HSX:Hid (∀ u,Bw Z u->Cl u w.heap.size 35 (bsV b q)/\Cl u L.heap.size 47 (bsV b C)):=fun u i=>have h:=p.out u (X5 H.out i);⟨(l.out u h.2.2.2).1.1,h.1⟩
 refine wp_region_held_drew (S:=fun u=>Cl u w.heap.size 35 (bsV b q)/\Cl u L.heap.size 47 (bsV b C)) Y2 (HSX.out _ hd) fun hH=>?_;refine tq 0 hH ?_ (hv:=fun u i=>X8 47 _ rfl (B:=L.heap.size) (j:=0) (cs:=bsV b C) rfl (fun q v e=>by rw [L8];exact (i.2.cell q).trans e) underlying47 rfl Y2)
 try simp only [qq]
 refine tq 1 hH ?_ (hv:=fun u i=>X8 35 _ rfl (B:=w.heap.size) (j:=0) (cs:=bsV b q) rfl (fun q v e=>by rw [L8];exact (i.1.cell q).trans e) underlying35 rfl Y2)
 try simp only [qq]
 refine rq 2 fun K Q=>?_;go_simp;refine (c6 b q Z.drew J.out (W.out.below (l.out _ (p.out _ (X5 H.out hd)).2.2.2).2.2)).mono ?_;rintro e w7 ⟨⟨q3,rfl,ha3,_⟩,a⟩;have b7:=hd.trans (a.mono H8);have A7:=U0 ha3;clear a ha3
 go_wp2_with fail
 refine E8 Q (HSX.out _ b7) fun hH=>?_;clear Q K;refine rq 3 fun K Q=>?_;go_simp;refine (c8 b C q3 w7 J.out (p.out _ (X5 H.out b7)).2.1 A7.out).mono ?_;rintro e w8 ⟨rfl,a⟩;have U:=X5 b7 a;clear a
 go_wp2_with fail
 refine E8 Q (HSX.out _ U) fun hH=>?_;clear Q K;refine Y0 4 ?_;refine wdn ?_
 replace H:=U0 (X5 H.out U)
 replace g:=U0 (g.out.below U)
 replace N:=U0 (X5 N.out U)
 clear U b7 hd HSX A7 hH
 go_upto_region 13 with fail
 go_wp2_with (refine U9 (p.out _ H.out).1 rfl 47 _ rfl (j:=0) (bsV b C) rfl rfl underlying47 rfl Y2 ?_)
 refine (c9 z.heap.size L.heap.size b C w8 (by have:=H.out.size;omega) J.out (p.out _ H.out).2.2.1).mono ?_;rintro e w9 ⟨⟨X,rfl,hX⟩,m⟩;have hX0:decide (X<0)=false:=by simp;omega
 have c:=U0 ((p.out _ H.out).2.2.2.trans (m.below H8 (p.out _ H.out).2.2.2.size))
 replace g:=U0 (g.out.next m.size (fun q h1 h2=>m.block q h2 (.inr (by omega))))
 replace RS:=U0 ((RS.out.md (Md.of (A:=0) (B:=0) (S:=[]) N.out)).md m)
 replace O:=U0 ((O.out.md (Md.of (A:=0) (B:=0) (S:=[]) N.out)).md m)
 have s9:=G7 N.out.size m.size;clear m H N hX p
 go_upto_region 14 with fail
 go_wp2_with (first | (refine Au rfl 47 _ rfl rfl g.out.now.1 underlying47 rfl Y2 ?_) | (refine Au rfl 47 _ rfl rfl (l.out _ c.out).1.2 underlying47 rfl Y2 ?_))
 refine (c8 (Ip d fn S Hd) (qF t s y x) (qF sa sc ha hc) w9 HLF.out g.out.now.2 (l.out _ c.out).2.1).mono ?_;rintro e w10 ⟨rfl,a⟩
 replace c:=U0 (X5 c.out a)
 replace g:=U0 (g.out.below a)
 replace RS:=U0 (RS.out.md (Md.of (A:=0) (B:=0) (S:=[]) a))
 replace O:=U0 (O.out.md (Md.of (A:=0) (B:=0) (S:=[]) a))
 have s10:=G7 s9 a.size;clear a s9
 go_upto_region 17 with fail
 go_wp2_with (refine U9 g.out.now.1 rfl 47 _ rfl (j:=0) (bsV (Ip d fn S Hd) (qF t s y x)) rfl rfl underlying47 rfl Y2 ?_)
 refine (c9s Y.heap.size P.heap.size d fn S Hd t y s x w10 O0 f1 f3 RS.out O.out).mono ?_;rintro e w11 ⟨⟨rfl,mv,mh⟩,m⟩;have f:Hid (Cl w11 P.heap.size 47 (bsV (Ip d fn S Hd) (qF t s y x))):=(m.block _ g.out.now.1.lt (.inr H8)).trans g.out.now.1
 replace c:=U0 (c.out.trans (m.below a5v c.out.size))
 have D:=U0 mv;have E:=U0 mh;clear m mv mh RS O g
 go_upto_region 19 with fail
 go_wp2_with (refine U9 f.out rfl 47 _ rfl (j:=0) (bsV (Ip d fn S Hd) (qF t s y x)) rfl rfl underlying47 rfl Y2 ?_)
 refine (a0L d fn S Hd t y s x w11 f1 f3 D.out E.out).mono ?_;rintro e w12 ⟨rfl,a⟩
 replace c:=U0 (X5 c.out a)
 replace f:=U0 (f.out.below a f.out.lt)
 replace D:=U0 (D.out.below a)
 replace E:=U0 (E.out.below a)
 clear a;have hp:decide (1+(S.length:Int)+(Hd.length:Int)<0)=false:=by simp;omega
 go_upto_region 24 with fail
 go_wp2_with (refine U9 (l.out _ c.out).1.1 rfl 35 _ rfl (j:=0) (bsV b q) rfl rfl underlying35 rfl Y2 ?_)
 refine (c6 b q w12 J.out (W.out.below (l.out _ c.out).2.2)).mono ?_;rintro e w13 ⟨⟨q4,rfl,ha4,hc4,_⟩,a⟩
 replace c:=U0 (X5 c.out a)
 replace f:=U0 (f.out.below a f.out.lt)
 replace D:=U0 (D.out.below a)
 replace E:=U0 (E.out.below a)
 clear a;have H7:=U0 (c7 b q4 keep w13 J.out hsl hc4 (HV.out.below (l.out _ c.out).2.2) ha4);clear ha4 hc4
 go_wp2_with fail
 refine H7.out.mono ?_;rintro e w14 ⟨⟨r3,v14,hv3,rfl,hF⟩,a⟩;obtain rfl:r=r3:=rJ VR.out hv3;unfold Fb at hF;rw [HFB.out] at hF;obtain ⟨sa9,sc9,ha9,hc9,rfl,k9,_,_⟩:=hF;have A9:=U0 k9.now
 replace c:=U0 (X5 c.out a)
 replace f:=U0 (f.out.below a f.out.lt)
 replace D:=U0 (D.out.below a)
 replace E:=U0 (E.out.below a)
 clear a;clear k9 hv3 H7
 go_upto_region 25 with (refine y9 rfl 47 _ _ rfl (B:=w14.heap.size) (j:=0) rfl (vs:=bsV (Ip d fn S Hd) (qF sa9 sc9 ha9 hc9)) rfl (Y4 w14 bz 47) H8 (o8 rfl) Y2 ?_;intro z9 k F)
 have a:=P6.trans (F.below H8)
 replace A9:=U0 (A9.out.below a)
 have C9:=U0 k
 replace c:=U0 (X5 c.out a)
 replace f:=U0 (f.out.below a f.out.lt)
 replace D:=U0 (D.out.below a)
 replace E:=U0 (E.out.below a)
 clear a;clear k F
 go_wp2_with (first | (refine U9 C9.out rfl 47 _ rfl (j:=0) (bsV (Ip d fn S Hd) (qF sa9 sc9 ha9 hc9)) rfl rfl underlying47 rfl Y2 ?_) | (refine U9 (l.out _ c.out).1.2 rfl 47 _ rfl (j:=0) (bsV (Ip d fn S Hd) (qF sa sc ha hc)) rfl rfl underlying47 rfl Y2 ?_))
 refine (c8 (Ip d fn S Hd) (qF sa9 sc9 ha9 hc9) (qF sa sc ha hc) z9 HLF.out A9.out (l.out _ c.out).2.1).mono ?_;rintro e w15 ⟨rfl,a⟩
 replace c:=U0 (X5 c.out a)
 replace f:=U0 (f.out.below a f.out.lt)
 replace D:=U0 (D.out.below a)
 replace E:=U0 (E.out.below a)
 clear a
 go_upto_region 28 with fail
 go_wp2_with (refine U9 f.out rfl 47 _ rfl (j:=0) (bsV (Ip d fn S Hd) (qF t s y x)) rfl rfl underlying47 rfl Y2 ?_)
 refine (a0L d fn S Hd t y s x w15 f1 f3 D.out E.out).mono ?_;rintro e w16 ⟨rfl,a⟩
 replace c:=U0 (X5 c.out a)
 clear a;go_wp2;go_ret;exact ⟨rfl,(l.out _ c.out).2.2⟩
