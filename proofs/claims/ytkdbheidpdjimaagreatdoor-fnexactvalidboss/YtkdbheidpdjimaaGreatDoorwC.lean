import Derived.Test.YtkdbheidpdjimaaGreatDoorwB
import Derived.Test.YtkdbheidpdjimaaGreatDoorvX
set_option linter.unusedVariables false
set_option maxHeartbeats 8000000
set_option maxRecDepth 100000
namespace Go.Proofs.YtkdbheidpdjimaaGreatDoor
open Proofs.Tryz Go.RowKit
theorem c25 (b:Bs) (q:Ba) (ms:List M3) (w:World) (hl:Bo b 1048576) (hp:G.Sj b.fs ms) (hat:Dn w b q):
 Calls prog 25 #[.agg #[.int .i64 b.wd,.bool b.up,.int .i64 b.now,.int .i64 b.ep,.int .i64 b.ed,.slice q.sa b.sf.length q.sc,.slice q.la b.lo.length q.lc,.slice q.fa b.fs.length q.fc,.int .i64 b.s.wd,.slice q.ta b.s.ts.length q.tc,.slice q.ra b.s.rs.length q.rc,.slice q.ha b.hd.length q.hc,.slice q.oa b.rt.length q.oc,.slice q.na b.rn.length q.nc,.slice q.ja b.jb.length q.jc]] w fun e w'=>Rb (pF ms b.rn) e/\Bw w w':=by
 have HA:=U0 hat;have HL0:=U0 hl;have hrl:=hl.nl;have HPT:=U0 hp;obtain ⟨bb,off,hc⟩:=P_ hat.rn;have HC:=U0 hc;clear hat hl hc hp;go_enter func25,ntmps25
 go_upto_region 1 with fail
 have C0:=U0 (G6 w [vI b.wd,.bool b.up,vI b.now,vI b.ep,vI b.ed,vL q.sa b.sf.length q.sc,vL q.la b.lo.length q.lc,vL q.fa b.fs.length q.fc,vI b.s.wd,vL q.ta b.s.ts.length q.tc,vL q.ra b.s.rs.length q.rc,vL q.ha b.hd.length q.hc,vL q.oa b.rt.length q.oc,vL q.na b.rn.length q.nc,vL q.ja b.jb.length q.jc] 48);have B0:=U0 (o7 (w:=w) (o:=.cells #[vI b.wd,.bool b.up,vI b.now,vI b.ep,vI b.ed,vL q.sa b.sf.length q.sc,vL q.la b.lo.length q.lc,vL q.fa b.fs.length q.fc,vI b.s.wd,vL q.ta b.s.ts.length q.tc,vL q.ra b.s.rs.length q.rc,vL q.ha b.hd.length q.hc,vL q.oa b.rt.length q.oc,vL q.na b.rn.length q.nc,vL q.ja b.jb.length q.jc] 48));generalize w.alloc (.cells #[vI b.wd,.bool b.up,vI b.now,vI b.ep,vI b.ed,vL q.sa b.sf.length q.sc,vL q.la b.lo.length q.lc,vL q.fa b.fs.length q.fc,vI b.s.wd,vL q.ta b.s.ts.length q.tc,vL q.ra b.s.rs.length q.rc,vL q.ha b.hd.length q.hc,vL q.oa b.rt.length q.oc,vL q.na b.rn.length q.nc,vL q.ja b.jb.length q.jc] 48)=V0 at*
 go_wp2_with fail
 go_loopw [3] (fun i wr=>∃ k:Nat,k<=b.rn.length/\i=.int .i64 k/\Hid (∀ i,i<k->(∃ j,j<ms.length/\(ms.getD j H_).nm=(b.rn.getD i Aa).nm)/\Ig (b.rn.getD i Aa)/\(0<i->Op.bytesLess (b.rn.getD (i - 1) Aa).nm.toList (b.rn.getD i Aa).nm.toList=true))/\Hid (Cl wr w.heap.size 48 [.int .i64 b.wd,.bool b.up,.int .i64 b.now,.int .i64 b.ep,.int .i64 b.ed,.slice q.sa b.sf.length q.sc,.slice q.la b.lo.length q.lc,.slice q.fa b.fs.length q.fc,.int .i64 b.s.wd,.slice q.ta b.s.ts.length q.tc,.slice q.ra b.s.rs.length q.rc,.slice q.ha b.hd.length q.hc,.slice q.oa b.rt.length q.oc,.slice q.na b.rn.length q.nc,.slice q.ja b.jb.length q.jc])/\Below w.heap.size w wr) (fun i _=>b.rn.length - (intOf i).toNat)
 case atStart=>exact ⟨0,D5 _,rfl,fun j h=>absurd h (o9 _),C0,B0.out⟩
 case round=>
  obtain ⟨k,hk,rfl,hd,Cr,hb⟩:=hrel;have HB:=U0 hb;clear hb;have a7:=Cr.out.cell 7;have a13:=Cr.out.cell 13;simp only [@gz Value] at a7 a13;by_cases hlt:k<b.rn.length;rotate_left
  · obtain rfl:k=b.rn.length:=O0;have HY:Hid (pF ms b.rn):=hd.out;go_wp2;go_ret;exact ⟨C_ HY.out,HB.out⟩
  obtain ⟨ha,hbw,hcell⟩:=Nc HC.out hlt;have a3r:=m_ hbw HB.out.size;obtain ⟨Y,X,gB,gL⟩:=(hcell k hlt).below hbw HB.out;have HP:Hid (wr.cell? (aA bb (off+(k - 1)*6))=some (vS (b.rn.getD (k - 1) Aa).nm)):=by
   obtain ⟨_,_,g,_⟩:=(hcell (k - 1) O0).below hbw HB.out;exact g 0 _ rfl
  have N:=U0 (HL0.out.ns k);have f:Hid (¬ ((∃ j,j<ms.length/\(ms.getD j H_).nm=(b.rn.getD k Aa).nm)/\Ig (b.rn.getD k Aa)/\(0<k->Op.bytesLess (b.rn.getD (k - 1) Aa).nm.toList (b.rn.getD k Aa).nm.toList=true))->¬ pF ms b.rn):=fun hg h=>hg (h k hlt);have HD:Hid (((∃ j,j<ms.length/\(ms.getD j H_).nm=(b.rn.getD k Aa).nm)/\Ig (b.rn.getD k Aa)/\(0<k->Op.bytesLess (b.rn.getD (k - 1) Aa).nm.toList (b.rn.getD k Aa).nm.toList=true))->∀ i,i<k+1->(∃ j,j<ms.length/\(ms.getD j H_).nm=(b.rn.getD i Aa).nm)/\Ig (b.rn.getD i Aa)/\(0<i->Op.bytesLess (b.rn.getD (i - 1) Aa).nm.toList (b.rn.getD i Aa).nm.toList=true)):=fun hg j hj=>by
   rcases o8 j k with h | h
   · exact hd.out j h
   · obtain rfl:j=k:=O0;exact hg
  generalize b.rn.getD k Aa=x at*;generalize b.rn.getD (k - 1) Aa=y at*;have GB:=U0 gB;have GL:=U0 gL;rw [ha] at a13;have HAq:=U0 ha;clear hcell hd gB gL ha
  go_upto_region 5 with (first | (refine Z9 rfl (Y8 115 _ rfl (B:=bb) (j:=off+k*6) (cs:=Ht (x,vL Y x.ls.length X)) rfl GB.out underlying115 rfl J3) ?_) | (refine Z8 rfl 115 _ _ rfl (B:=wr.heap.size) (j:=0) rfl (vs:=Ht (x,vL Y x.ls.length X)) rfl (G6 wr [vE,vO,vE,vN,vO,vE] 115) x9 (EQ x Y X) J3 ?_;intro z cz oz))
  have CZ:Hid (Cl z wr.heap.size 115 [vS x.nm,vI x.md,vS x.wt,vL Y x.ls.length X,vI x.cd,vS x.tx]):=cz;have BZ:=U0 ((o7 (w:=wr) (o:=.cells #[vE,vO,vE,vN,vO,vE] 115)).trans (oz.below x9));clear cz oz;have Crz:=U0 (Cr.out.below BZ.out Cr.out.lt);clear a7 a13;have a7:=Crz.out.cell 7;simp only [@gz Value] at a7;have r0:=CZ.out.cell 0;simp only [@gz Value] at r0
  go_wp2_with fail
  refine (G.c57 q.fa q.fc b.fs x.nm z HL0.out.fl HL0.out.fz (T.U5 HA.out.fs (G7 HB.out BZ.out))).mono ?_;rintro e w1 ⟨⟨ms',hp',m,th,rfl,hy⟩,hb1⟩;obtain rfl:=G.Jz hp' HPT.out;clear r0 a7 hp'
  go_upto_region 6 with fail
  have BM:=U0 (G7 hb1 (o7 (w:=w1) (o:=.cells #[vS m.nm,vS m.tl,vS m.ar] 101)));generalize w1.alloc (.cells #[vS m.nm,vS m.tl,vS m.ar] 101)=V at*;have CV:=U0 (CZ.out.below BM.out CZ.out.lt);have BV:=U0 (G7 BZ.out BM.out);have A:=U0 (Cr.out.below BV.out Cr.out.lt);have O:Bw V V.drew:=(Z4 _ _).drew;have CD:=U0 (CV.out.below O CV.out.lt);have HQ:=U0 (G7 HB.out BV.out);clear hb1 CZ BZ BM Crz;have R:Hid (∀ u,Bw V u->u.cell? (aW w 13)=some (vL (some (aA bb off)) b.rn.length q.nc)/\u.cell? (aA bb (off+(k - 1)*6))=some (vS y.nm)/\u.cell? (aW wr 0)=some (vS x.nm)/\u.cell? (aW wr 1)=some (vI x.md)/\u.cell? (aW wr 2)=some (vS x.wt)/\u.cell? (aW wr 3)=some (vL Y x.ls.length X)):=fun u hu=>by
   have h1:=A.out.below hu A.out.lt;have h2:=CV.out.below hu CV.out.lt;refine ⟨(h1.cell 13).trans (by rw [HAq.out];rfl),((G7 BV.out hu).cell (by exact a3r)).trans HP.out,h2.cell 0,h2.cell 1,h2.cell 2,h2.cell 3⟩
  refine wp_region_held_drew (S:=fun u=>u.cell? (aW w 13)=some (vL (some (aA bb off)) b.rn.length q.nc)/\u.cell? (aA bb (off+(k - 1)*6))=some (vS y.nm)/\u.cell? (aW wr 0)=some (vS x.nm)/\u.cell? (aW wr 1)=some (vI x.md)/\u.cell? (aW wr 2)=some (vS x.wt)/\u.cell? (aW wr 3)=some (vL Y x.ls.length X)) J3 (R.out _ O) fun hH=>?_
  cases th with
  | false=>
   have a:=U0 (f.out (fun h=>by
    rcases hy with ⟨h,_⟩ | ⟨_,hy⟩
    · cases h
    obtain ⟨j,hj,e⟩:=h.1;exact hy j hj e))
   clear hy;refine Y0 0 ?_;refine Y0 1 ?_;refine Y0 2 ?_;refine Y4 3 ?_;refine Y4 4 ?_;refine Y4 5 ?_;refine Y4 6 ?_;refine Y4 7 ?_;refine Y4 8 ?_;refine Y4 9 ?_;refine Y4 10 ?_;refine Y4 11 ?_;refine Y4 12 ?_;refine Y4 13 ?_;refine Y4 14 ?_;refine Y4 15 ?_;refine Y4 16 ?_;refine Y0 17 ?_;refine Y0 18 ?_;refine Y4 19 ?_;refine Y4 20 ?_;refine Y4 21 ?_;refine Y4 22 ?_;refine Y0 23 ?_;refine Y0 24 ?_;refine Y4 25 ?_;refine Y4 26 ?_;refine Y4 27 ?_;refine Y4 28 ?_;refine Y0 29 ?_;refine Y0 30 ?_;refine Y4 31 ?_;refine Y4 32 ?_;refine Y4 33 ?_;refine Y4 34 ?_;refine Y4 35 ?_;refine Y4 36 ?_;refine Y4 37 ?_;refine Y4 38 ?_;refine Y4 39 ?_;refine Y0 40 ?_;refine wdn ?_;go_wp2;go_ret;exact ⟨G5 a.out,HQ.out.drew⟩
  | true=>
  have Z:Hid (∃ j,j<ms'.length/\(ms'.getD j H_).nm=x.nm):=by
   rcases hy with ⟨_,i,hi,e1,e2⟩ | ⟨h,_⟩
   · exact ⟨i,hi,by rw [e1];exact e2⟩
   cases h
  clear hy;refine Y0 0 ?_;refine Y0 1 ?_;refine Y0 2 ?_;refine Y0 3 ?_;refine Y0 4 ?_;by_cases h0:0<k;rotate_left
  · have U:Hid (0<k->Op.bytesLess y.nm.toList x.nm.toList=true):=fun h=>absurd h h0;rw [P9 h0];refine Y0 5 ?_;refine Y4 6 ?_;refine Y4 7 ?_;refine Y4 8 ?_;refine Y4 9 ?_;refine Y4 10 ?_;refine Y4 11 ?_;refine Y4 12 ?_;refine Y4 13 ?_;refine Y4 14 ?_;refine Y4 15 ?_;refine Y0 16 ?_;refine Y0 17 ?_;refine Y0 18 ?_;refine Y0 19 ?_;refine Y0 20 ?_;refine rq 21 fun K l=>?_;go_simp;refine (c17 x.md 0 2 V.drew).mono ?_;rintro e w7 ⟨rfl,hw7⟩;obtain rfl:=hw7.symm;by_cases hmd:0<=x.md/\x.md<=2;rotate_left
    · have a:=U0 (f.out (fun h=>hmd (by rcases h.2.1.2 with ⟨h,_⟩ | ⟨h,_⟩<;>omega)));rw [P9 hmd]
      go_wp2_with fail
      refine J8 l (R.out _ O) fun hH=>?_;clear l K;refine Y0 22 ?_;refine Y0 23 ?_;refine Y0 24 ?_;refine Y4 25 ?_;refine Y4 26 ?_;refine Y4 27 ?_;refine Y4 28 ?_;refine Y0 29 ?_;refine Y0 30 ?_;refine Y4 31 ?_;refine Y4 32 ?_;refine Y4 33 ?_;refine Y4 34 ?_;refine Y4 35 ?_;refine Y4 36 ?_;refine Y4 37 ?_;refine Y4 38 ?_;refine Y4 39 ?_;refine Y0 40 ?_;refine wdn ?_;go_wp2;go_ret;exact ⟨G5 a.out,HQ.out.drew⟩
    rw [y_ hmd]
    go_wp2_with fail
    refine J8 l (R.out _ O) fun hH=>?_;clear l K;refine Y0 22 ?_;refine Y0 23 ?_;refine Y0 24 ?_;refine Y0 25 ?_;refine Y0 26 ?_;refine rq 27 fun K l=>?_;go_simp;refine (c58 Y X x.ls V.drew N.out.2.2.1.1 N.out.2.2.1.2 (N7 GL.out (G7 BV.out O))).mono ?_;rintro e w8 ⟨⟨bo,rfl,Q⟩,hb8⟩;have H:=U0 (O.trans (hb8.mono x9));have n:=U0 (G7 HQ.out H.out);have c:=U0 (CD.out.below hb8 CD.out.lt);clear hb8
    go_wp2_with fail
    refine J8 l (R.out _ H.out) fun hH=>?_;clear l K
    cases bo with
    | false=>
     have a:=U0 (f.out (fun h=>by have:=Q.2 h.2.1.1;cases this));clear Q;refine Y0 28 ?_;refine Y0 29 ?_;refine Y0 30 ?_;refine Y4 31 ?_;refine Y4 32 ?_;refine Y4 33 ?_;refine Y4 34 ?_;refine Y4 35 ?_;refine Y4 36 ?_;refine Y4 37 ?_;refine Y4 38 ?_;refine Y4 39 ?_;refine Y0 40 ?_;refine wdn ?_;go_wp2;go_ret;exact ⟨G5 a.out,n.out⟩
    | true=>
    have W:=U0 (Q.1 rfl);clear Q;refine Y0 28 ?_;refine Y0 29 ?_;refine Y0 30 ?_;refine Y0 31 ?_;refine Y0 32 ?_;by_cases I:x.wt=⟨#[]⟩
    · have HWT:Hid (yG x.wt):=.inl I;have z:(x.wt.toList==([]:List UInt8))=true:=by rw [I,ByteArray.toList_eq];rfl
      refine Y0 33 ?_;refine Y0 34 ?_;refine Y4 35 ?_;refine Y4 36 ?_;refine Y4 37 ?_;refine Y4 38 ?_;refine Y0 39 ?_;refine Y0 40 ?_;refine wdn ?_;have E:=c.out.cell 1;have d:=c.out.cell 2;have p:=c.out.cell 4;have D:=c.out.cell 5;simp only [@gz Value] at E d p D;by_cases h2:x.md=2
      · rw [h2] at E;have L:=U0 (c59 x.cd x.tx w8 (by have:=N.out.2.2.2;omega))
        go_wp2_with fail
        refine L.out.mono ?_;rintro e w9 ⟨rfl,v⟩;have C9:=U0 (c.out.below v c.out.lt);have J:=U0 (G7 n.out v);have K9:=U0 (A.out.below (G7 H.out v) A.out.lt);clear v L E d p D;have d:=C9.out.cell 2;simp only [@gz Value] at d;by_cases hv:vr x.cd x.tx.data.toList=true
        · rw [hv];by_cases C:x.wt=⟨#[]⟩
          · have F:=U0 (HD.out ⟨Z.out,⟨W.out,.inr ⟨h2,hv,C⟩⟩,U.out⟩);rw [C] at d;go_wp2;go_roundw
            case rel=>exact ⟨k+1,O0,by go_num,F,K9,J.out⟩
            case measure=>simp [intOf];omega
          exact absurd I C
        rw [Uh.2 hv];have a:=U0 (f.out (fun h=>by
         rcases h.2.1.2 with ⟨h,_⟩ | ⟨_,h,_⟩
         · omega
         exact hv h))
        go_wp2;go_ret;exact ⟨G5 a.out,J.out⟩
      by_cases t:x.cd=0;rotate_left
      · have a:=U0 (f.out (fun h=>by
         rcases h.2.1.2 with ⟨_,h,_⟩ | ⟨h,_⟩
         · exact t h.1
         exact h2 h))
        go_wp2;go_ret;exact ⟨G5 a.out,n.out⟩
      by_cases r:x.tx=⟨#[]⟩;rotate_left
      · have a:=U0 (f.out (fun h=>by
         rcases h.2.1.2 with ⟨_,h,_⟩ | ⟨h,_⟩
         · exact r h.2
         exact h2 h))
        have z:=uf r;have z1:=n_.1 z;rw [t] at p;go_wp2;go_ret;exact ⟨G5 a.out,n.out⟩
      have F:=U0 (HD.out ⟨Z.out,⟨W.out,.inl ⟨O0,⟨t,r⟩,HWT.out⟩⟩,U.out⟩);rw [t] at p;rw [r] at D;go_wp2;go_roundw
      case rel=>exact ⟨k+1,O0,by go_num,F,A.out.below H.out A.out.lt,n.out⟩
      case measure=>simp [intOf];omega
    have z:=uf I;refine Y0 33 ?_;refine Y0 34 ?_;refine Y0 35 ?_;refine Y0 36 ?_;refine rq 37 fun K l=>?_;go_simp;refine (c23 x.wt w8 (by have:=N.out.2.1;omega)).mono ?_;rintro e w7 ⟨rfl,hw7⟩;obtain rfl:=hw7.symm
    go_wp2_with fail
    refine J8 l (R.out _ H.out) fun hH=>?_;clear l K;by_cases P:o6 x.wt.data.toList=true;rotate_left
    · have a:=U0 (f.out (fun h=>by
       rcases h.2.1.2 with ⟨_,_,h⟩ | ⟨_,_,h⟩
       · exact P (h.resolve_left I)
       exact I h))
      rw [Uh.2 P];refine Y0 38 ?_;refine Y0 39 ?_;refine Y0 40 ?_;refine wdn ?_;go_wp2;go_ret;exact ⟨G5 a.out,n.out⟩
    have HWT:Hid (yG x.wt):=.inr P;rw [P];refine Y0 38 ?_;refine Y0 39 ?_;refine Y0 40 ?_;refine wdn ?_;have E:=c.out.cell 1;have d:=c.out.cell 2;have p:=c.out.cell 4;have D:=c.out.cell 5;simp only [@gz Value] at E d p D;by_cases h2:x.md=2
    · rw [h2] at E;have L:=U0 (c59 x.cd x.tx w8 (by have:=N.out.2.2.2;omega))
      go_wp2_with fail
      refine L.out.mono ?_;rintro e w9 ⟨rfl,v⟩;have C9:=U0 (c.out.below v c.out.lt);have J:=U0 (G7 n.out v);have K9:=U0 (A.out.below (G7 H.out v) A.out.lt);clear v L E d p D;have d:=C9.out.cell 2;simp only [@gz Value] at d;by_cases hv:vr x.cd x.tx.data.toList=true
      · rw [hv];by_cases C:x.wt=⟨#[]⟩
        · have F:=U0 (HD.out ⟨Z.out,⟨W.out,.inr ⟨h2,hv,C⟩⟩,U.out⟩);rw [C] at d;go_wp2;go_roundw
          case rel=>exact ⟨k+1,O0,by go_num,F,K9,J.out⟩
          case measure=>simp [intOf];omega
        have z:=uf C;have a:=U0 (f.out (fun h=>by
         rcases h.2.1.2 with ⟨h,_⟩ | ⟨_,_,h⟩
         · omega
         exact C h))
        go_wp2;go_ret;exact ⟨G5 a.out,J.out⟩
      rw [Uh.2 hv];have a:=U0 (f.out (fun h=>by
       rcases h.2.1.2 with ⟨h,_⟩ | ⟨_,h,_⟩
       · omega
       exact hv h))
      go_wp2;go_ret;exact ⟨G5 a.out,J.out⟩
    by_cases t:x.cd=0;rotate_left
    · have a:=U0 (f.out (fun h=>by
       rcases h.2.1.2 with ⟨_,h,_⟩ | ⟨h,_⟩
       · exact t h.1
       exact h2 h))
      go_wp2;go_ret;exact ⟨G5 a.out,n.out⟩
    by_cases r:x.tx=⟨#[]⟩;rotate_left
    · have a:=U0 (f.out (fun h=>by
       rcases h.2.1.2 with ⟨_,h,_⟩ | ⟨h,_⟩
       · exact r h.2
       exact h2 h))
      have z:=uf r;have z1:=n_.1 z;rw [t] at p;go_wp2;go_ret;exact ⟨G5 a.out,n.out⟩
    have F:=U0 (HD.out ⟨Z.out,⟨W.out,.inl ⟨O0,⟨t,r⟩,HWT.out⟩⟩,U.out⟩);rw [t] at p;rw [r] at D;go_wp2;go_roundw
    case rel=>exact ⟨k+1,O0,by go_num,F,A.out.below H.out A.out.lt,n.out⟩
    case measure=>simp [intOf];omega
  rw [y_ h0];refine Y0 5 ?_;refine Y0 6 ?_;refine Y0 7 ?_;refine Y0 8 ?_;refine Y0 9 ?_;have hk1:k - 1<b.rn.length:=O0;rw [show (k:Int) - 1=((k - 1:Nat):Int) by omega,T.Na (k - 1) O0];refine Y0 10 ?_;refine Y0 11 ?_;refine Y0 12 ?_;refine Y0 13 ?_;refine Y0 14 ?_;refine Y0 15 ?_;by_cases hls:Op.bytesLess y.nm.toList x.nm.toList=true;rotate_left
  · have a:=U0 (f.out (fun h=>hls (h.2.2 h0)));rw [Uh.2 hls,QH];refine Y0 16 ?_;refine Y0 17 ?_;refine Y0 18 ?_;refine Y4 19 ?_;refine Y4 20 ?_;refine Y4 21 ?_;refine Y4 22 ?_;refine Y0 23 ?_;refine Y0 24 ?_;refine Y4 25 ?_;refine Y4 26 ?_;refine Y4 27 ?_;refine Y4 28 ?_;refine Y0 29 ?_;refine Y0 30 ?_;refine Y4 31 ?_;refine Y4 32 ?_;refine Y4 33 ?_;refine Y4 34 ?_;refine Y4 35 ?_;refine Y4 36 ?_;refine Y4 37 ?_;refine Y4 38 ?_;refine Y4 39 ?_;refine Y0 40 ?_;refine wdn ?_;go_wp2;go_ret;exact ⟨G5 a.out,HQ.out.drew⟩
  have U:Hid (0<k->Op.bytesLess y.nm.toList x.nm.toList=true):=fun _=>hls;rw [hls,jJ];refine Y0 16 ?_;refine Y0 17 ?_;refine Y0 18 ?_;refine Y0 19 ?_;refine Y0 20 ?_;refine rq 21 fun K l=>?_;go_simp;refine (c17 x.md 0 2 V.drew).mono ?_;rintro e w7 ⟨rfl,hw7⟩;obtain rfl:=hw7.symm;by_cases hmd:0<=x.md/\x.md<=2;rotate_left
  · have a:=U0 (f.out (fun h=>hmd (by rcases h.2.1.2 with ⟨h,_⟩ | ⟨h,_⟩<;>omega)));rw [P9 hmd]
    go_wp2_with fail
    refine J8 l (R.out _ O) fun hH=>?_;clear l K;refine Y0 22 ?_;refine Y0 23 ?_;refine Y0 24 ?_;refine Y4 25 ?_;refine Y4 26 ?_;refine Y4 27 ?_;refine Y4 28 ?_;refine Y0 29 ?_;refine Y0 30 ?_;refine Y4 31 ?_;refine Y4 32 ?_;refine Y4 33 ?_;refine Y4 34 ?_;refine Y4 35 ?_;refine Y4 36 ?_;refine Y4 37 ?_;refine Y4 38 ?_;refine Y4 39 ?_;refine Y0 40 ?_;refine wdn ?_;go_wp2;go_ret;exact ⟨G5 a.out,HQ.out.drew⟩
  rw [y_ hmd]
  go_wp2_with fail
  refine J8 l (R.out _ O) fun hH=>?_;clear l K;refine Y0 22 ?_;refine Y0 23 ?_;refine Y0 24 ?_;refine Y0 25 ?_;refine Y0 26 ?_;refine rq 27 fun K l=>?_;go_simp;refine (c58 Y X x.ls V.drew N.out.2.2.1.1 N.out.2.2.1.2 (N7 GL.out (G7 BV.out O))).mono ?_;rintro e w8 ⟨⟨bo,rfl,Q⟩,hb8⟩;have H:=U0 (O.trans (hb8.mono x9));have n:=U0 (G7 HQ.out H.out);have c:=U0 (CD.out.below hb8 CD.out.lt);clear hb8
  go_wp2_with fail
  refine J8 l (R.out _ H.out) fun hH=>?_;clear l K
  cases bo with
  | false=>
   have a:=U0 (f.out (fun h=>by have:=Q.2 h.2.1.1;cases this));clear Q;refine Y0 28 ?_;refine Y0 29 ?_;refine Y0 30 ?_;refine Y4 31 ?_;refine Y4 32 ?_;refine Y4 33 ?_;refine Y4 34 ?_;refine Y4 35 ?_;refine Y4 36 ?_;refine Y4 37 ?_;refine Y4 38 ?_;refine Y4 39 ?_;refine Y0 40 ?_;refine wdn ?_;go_wp2;go_ret;exact ⟨G5 a.out,n.out⟩
  | true=>
  have W:=U0 (Q.1 rfl);clear Q;refine Y0 28 ?_;refine Y0 29 ?_;refine Y0 30 ?_;refine Y0 31 ?_;refine Y0 32 ?_;by_cases I:x.wt=⟨#[]⟩
  · have HWT:Hid (yG x.wt):=.inl I;have z:(x.wt.toList==([]:List UInt8))=true:=by rw [I,ByteArray.toList_eq];rfl
    refine Y0 33 ?_;refine Y0 34 ?_;refine Y4 35 ?_;refine Y4 36 ?_;refine Y4 37 ?_;refine Y4 38 ?_;refine Y0 39 ?_;refine Y0 40 ?_;refine wdn ?_;have E:=c.out.cell 1;have d:=c.out.cell 2;have p:=c.out.cell 4;have D:=c.out.cell 5;simp only [@gz Value] at E d p D;by_cases h2:x.md=2
    · rw [h2] at E;have L:=U0 (c59 x.cd x.tx w8 (by have:=N.out.2.2.2;omega))
      go_wp2_with fail
      refine L.out.mono ?_;rintro e w9 ⟨rfl,v⟩;have C9:=U0 (c.out.below v c.out.lt);have J:=U0 (G7 n.out v);have K9:=U0 (A.out.below (G7 H.out v) A.out.lt);clear v L E d p D;have d:=C9.out.cell 2;simp only [@gz Value] at d;by_cases hv:vr x.cd x.tx.data.toList=true
      · rw [hv];by_cases C:x.wt=⟨#[]⟩
        · have F:=U0 (HD.out ⟨Z.out,⟨W.out,.inr ⟨h2,hv,C⟩⟩,U.out⟩);rw [C] at d;go_wp2;go_roundw
          case rel=>exact ⟨k+1,O0,by go_num,F,K9,J.out⟩
          case measure=>simp [intOf];omega
        exact absurd I C
      rw [Uh.2 hv];have a:=U0 (f.out (fun h=>by
       rcases h.2.1.2 with ⟨h,_⟩ | ⟨_,h,_⟩
       · omega
       exact hv h))
      go_wp2;go_ret;exact ⟨G5 a.out,J.out⟩
    by_cases t:x.cd=0;rotate_left
    · have a:=U0 (f.out (fun h=>by
       rcases h.2.1.2 with ⟨_,h,_⟩ | ⟨h,_⟩
       · exact t h.1
       exact h2 h))
      go_wp2;go_ret;exact ⟨G5 a.out,n.out⟩
    by_cases r:x.tx=⟨#[]⟩;rotate_left
    · have a:=U0 (f.out (fun h=>by
       rcases h.2.1.2 with ⟨_,h,_⟩ | ⟨h,_⟩
       · exact r h.2
       exact h2 h))
      have z:=uf r;have z1:=n_.1 z;rw [t] at p;go_wp2;go_ret;exact ⟨G5 a.out,n.out⟩
    have F:=U0 (HD.out ⟨Z.out,⟨W.out,.inl ⟨O0,⟨t,r⟩,HWT.out⟩⟩,U.out⟩);rw [t] at p;rw [r] at D;go_wp2;go_roundw
    case rel=>exact ⟨k+1,O0,by go_num,F,A.out.below H.out A.out.lt,n.out⟩
    case measure=>simp [intOf];omega
  have z:=uf I;refine Y0 33 ?_;refine Y0 34 ?_;refine Y0 35 ?_;refine Y0 36 ?_;refine rq 37 fun K l=>?_;go_simp;refine (c23 x.wt w8 (by have:=N.out.2.1;omega)).mono ?_;rintro e w7 ⟨rfl,hw7⟩;obtain rfl:=hw7.symm
  go_wp2_with fail
  refine J8 l (R.out _ H.out) fun hH=>?_;clear l K;by_cases P:o6 x.wt.data.toList=true;rotate_left
  · have a:=U0 (f.out (fun h=>by
     rcases h.2.1.2 with ⟨_,_,h⟩ | ⟨_,_,h⟩
     · exact P (h.resolve_left I)
     exact I h))
    rw [Uh.2 P];refine Y0 38 ?_;refine Y0 39 ?_;refine Y0 40 ?_;refine wdn ?_;go_wp2;go_ret;exact ⟨G5 a.out,n.out⟩
  have HWT:Hid (yG x.wt):=.inr P;rw [P];refine Y0 38 ?_;refine Y0 39 ?_;refine Y0 40 ?_;refine wdn ?_;have E:=c.out.cell 1;have d:=c.out.cell 2;have p:=c.out.cell 4;have D:=c.out.cell 5;simp only [@gz Value] at E d p D;by_cases h2:x.md=2
  · rw [h2] at E;have L:=U0 (c59 x.cd x.tx w8 (by have:=N.out.2.2.2;omega))
    go_wp2_with fail
    refine L.out.mono ?_;rintro e w9 ⟨rfl,v⟩;have C9:=U0 (c.out.below v c.out.lt);have J:=U0 (G7 n.out v);have K9:=U0 (A.out.below (G7 H.out v) A.out.lt);clear v L E d p D;have d:=C9.out.cell 2;simp only [@gz Value] at d;by_cases hv:vr x.cd x.tx.data.toList=true
    · rw [hv];by_cases C:x.wt=⟨#[]⟩
      · have F:=U0 (HD.out ⟨Z.out,⟨W.out,.inr ⟨h2,hv,C⟩⟩,U.out⟩);rw [C] at d;go_wp2;go_roundw
        case rel=>exact ⟨k+1,O0,by go_num,F,K9,J.out⟩
        case measure=>simp [intOf];omega
      have z:=uf C;have a:=U0 (f.out (fun h=>by
       rcases h.2.1.2 with ⟨h,_⟩ | ⟨_,_,h⟩
       · omega
       exact C h))
      go_wp2;go_ret;exact ⟨G5 a.out,J.out⟩
    rw [Uh.2 hv];have a:=U0 (f.out (fun h=>by
     rcases h.2.1.2 with ⟨h,_⟩ | ⟨_,h,_⟩
     · omega
     exact hv h))
    go_wp2;go_ret;exact ⟨G5 a.out,J.out⟩
  by_cases t:x.cd=0;rotate_left
  · have a:=U0 (f.out (fun h=>by
     rcases h.2.1.2 with ⟨_,h,_⟩ | ⟨h,_⟩
     · exact t h.1
     exact h2 h))
    go_wp2;go_ret;exact ⟨G5 a.out,n.out⟩
  by_cases r:x.tx=⟨#[]⟩;rotate_left
  · have a:=U0 (f.out (fun h=>by
     rcases h.2.1.2 with ⟨_,h,_⟩ | ⟨h,_⟩
     · exact r h.2
     exact h2 h))
    have z:=uf r;have z1:=n_.1 z;rw [t] at p;go_wp2;go_ret;exact ⟨G5 a.out,n.out⟩
  have F:=U0 (HD.out ⟨Z.out,⟨W.out,.inl ⟨O0,⟨t,r⟩,HWT.out⟩⟩,U.out⟩);rw [t] at p;rw [r] at D;go_wp2;go_roundw
  case rel=>exact ⟨k+1,O0,by go_num,F,A.out.below H.out A.out.lt,n.out⟩
  case measure=>simp [intOf];omega
