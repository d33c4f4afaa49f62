import Derived.Test.YtchjpjmcnhjbcaaGreatDoorwG
set_option linter.unusedVariables false
set_option maxHeartbeats 8000000
set_option maxRecDepth 100000
namespace Go.Proofs.YtchjpjmcnhjbcaaGreatDoor
open Proofs.Tryz Go.RowKit
theorem c63 (b:Bs) (q:Ba) (ms:List M3) (w:World) (hl:Gj b 1048576) (hp:G.Jj b.fs ms) (hat:Oh w b q):
 Calls prog 63 #[.agg #[.int .i64 b.wd,.bool b.up,.int .i64 b.now,.int .i64 b.ep,.int .i64 b.ed,.slice q.sa b.sf.length q.sc,.slice q.la b.lo.length q.lc,.slice q.fa b.fs.length q.fc,.int .i64 b.s.wd,.slice q.ta b.s.ts.length q.tc,.slice q.ra b.s.rs.length q.rc,.slice q.ha b.hd.length q.hc,.slice q.oa b.rt.length q.oc,.slice q.na b.rn.length q.nc,.slice q.ja b.jb.length q.jc]] w fun e w'=>Rb (WC ms b.rn) e/\Bw w w':=by
 have HA:=U0 hat;have HL0:=U0 hl;have hrl:=hl.nl;have HPT:=U0 hp;obtain ⟨bb,off,hc⟩:=N_ hat.rn;have HC:=U0 hc;clear hat hl hc hp;go_enter func63,ntmps63
 go_upto_region 1 with fail
 have C0:=U0 (Y4 w [vI b.wd,.bool b.up,vI b.now,vI b.ep,vI b.ed,vL q.sa b.sf.length q.sc,vL q.la b.lo.length q.lc,vL q.fa b.fs.length q.fc,vI b.s.wd,vL q.ta b.s.ts.length q.tc,vL q.ra b.s.rs.length q.rc,vL q.ha b.hd.length q.hc,vL q.oa b.rt.length q.oc,vL q.na b.rn.length q.nc,vL q.ja b.jb.length q.jc] 47);have B0:=U0 (P6 (w:=w) (o:=.cells #[vI b.wd,.bool b.up,vI b.now,vI b.ep,vI b.ed,vL q.sa b.sf.length q.sc,vL q.la b.lo.length q.lc,vL q.fa b.fs.length q.fc,vI b.s.wd,vL q.ta b.s.ts.length q.tc,vL q.ra b.s.rs.length q.rc,vL q.ha b.hd.length q.hc,vL q.oa b.rt.length q.oc,vL q.na b.rn.length q.nc,vL q.ja b.jb.length q.jc] 47));generalize w.alloc (.cells #[vI b.wd,.bool b.up,vI b.now,vI b.ep,vI b.ed,vL q.sa b.sf.length q.sc,vL q.la b.lo.length q.lc,vL q.fa b.fs.length q.fc,vI b.s.wd,vL q.ta b.s.ts.length q.tc,vL q.ra b.s.rs.length q.rc,vL q.ha b.hd.length q.hc,vL q.oa b.rt.length q.oc,vL q.na b.rn.length q.nc,vL q.ja b.jb.length q.jc] 47)=V0 at*
 go_wp2_with fail
 go_loopw [3] (fun i wr=>∃ k:Nat,k<=b.rn.length/\i=.int .i64 k/\Hid (∀ i,i<k->(∃ j,j<ms.length/\(ms.getD j D_).nm=(b.rn.getD i X_).nm)/\Gg (b.rn.getD i X_)/\(0<i->Op.bytesLess (b.rn.getD (i - 1) X_).nm.toList (b.rn.getD i X_).nm.toList=true))/\Hid (Cl wr w.heap.size 47 [.int .i64 b.wd,.bool b.up,.int .i64 b.now,.int .i64 b.ep,.int .i64 b.ed,.slice q.sa b.sf.length q.sc,.slice q.la b.lo.length q.lc,.slice q.fa b.fs.length q.fc,.int .i64 b.s.wd,.slice q.ta b.s.ts.length q.tc,.slice q.ra b.s.rs.length q.rc,.slice q.ha b.hd.length q.hc,.slice q.oa b.rt.length q.oc,.slice q.na b.rn.length q.nc,.slice q.ja b.jb.length q.jc])/\Below w.heap.size w wr) (fun i _=>b.rn.length - (RowKit.intOf i).toNat)
 case atStart=>exact ⟨0,J4 _,rfl,fun j h=>absurd h (J8 _),C0,B0.out⟩
 case round=>
  obtain ⟨k,hk,rfl,hd,Cr,hb⟩:=hrel;have HB:=U0 hb;clear hb;have a7:=Cr.out.cell 7;have a13:=Cr.out.cell 13;simp only [@gz Value] at a7 a13;by_cases hlt:k<b.rn.length;rotate_left
  · obtain rfl:k=b.rn.length:=O0;have HY:Hid (WC ms b.rn):=hd.out;go_wp2;go_ret;exact ⟨u_ HY.out,HB.out⟩
  obtain ⟨ha,hbw,hcell⟩:=Cc HC.out hlt;have a4s:=O9 hbw HB.out.size;obtain ⟨Y,X,gB,gL⟩:=(hcell k hlt).below hbw HB.out;have HP:Hid (wr.cell? (aA bb (off+(k - 1)*6))=some (vS (b.rn.getD (k - 1) X_).nm)):=by
   obtain ⟨_,_,g,_⟩:=(hcell (k - 1) O0).below hbw HB.out;exact g 0 _ rfl
  have N:=U0 (HL0.out.ns k);have f:Hid (¬ ((∃ j,j<ms.length/\(ms.getD j D_).nm=(b.rn.getD k X_).nm)/\Gg (b.rn.getD k X_)/\(0<k->Op.bytesLess (b.rn.getD (k - 1) X_).nm.toList (b.rn.getD k X_).nm.toList=true))->¬ WC ms b.rn):=fun hg h=>hg (h k hlt);have HD:Hid (((∃ j,j<ms.length/\(ms.getD j D_).nm=(b.rn.getD k X_).nm)/\Gg (b.rn.getD k X_)/\(0<k->Op.bytesLess (b.rn.getD (k - 1) X_).nm.toList (b.rn.getD k X_).nm.toList=true))->∀ i,i<k+1->(∃ j,j<ms.length/\(ms.getD j D_).nm=(b.rn.getD i X_).nm)/\Gg (b.rn.getD i X_)/\(0<i->Op.bytesLess (b.rn.getD (i - 1) X_).nm.toList (b.rn.getD i X_).nm.toList=true)):=fun hg j hj=>by
   rcases Q7 j k with h | h
   · exact hd.out j h
   · obtain rfl:j=k:=O0;exact hg
  generalize b.rn.getD k X_=x at*;generalize b.rn.getD (k - 1) X_=y at*;have GB:=U0 gB;have GL:=U0 gL;rw [ha] at a13;have HAq:=U0 ha;clear hcell hd gB gL ha
  go_upto_region 5 with (first | (refine Y9 rfl (X8 105 _ rfl (B:=bb) (j:=off+k*6) (cs:=Nz (x,vL Y x.ls.length X)) rfl GB.out underlying105 rfl Y2) ?_) | (refine y9 rfl 105 _ _ rfl (B:=wr.heap.size) (j:=0) rfl (vs:=Nz (x,vL Y x.ls.length X)) rfl (Y4 wr [vE,vO,vE,vN,vO,vE] 105) H8 (xR x Y X) Y2 ?_;intro z cz oz))
  have CZ:Hid (Cl z wr.heap.size 105 [vS x.nm,vI x.md,vS x.wt,vL Y x.ls.length X,vI x.cd,vS x.tx]):=cz;have BZ:=U0 ((P6 (w:=wr) (o:=.cells #[vE,vO,vE,vN,vO,vE] 105)).trans (oz.below H8));clear cz oz;have Crz:=U0 (Cr.out.below BZ.out Cr.out.lt);clear a7 a13;have a7:=Crz.out.cell 7;simp only [@gz Value] at a7;have r0:=CZ.out.cell 0;simp only [@gz Value] at r0
  go_wp2_with fail
  refine (G.c98 q.fa q.fc b.fs x.nm z HL0.out.fl HL0.out.fz (T.J5 HA.out.fs (X5 HB.out BZ.out))).mono ?_;rintro e w1 ⟨⟨ms',hp',m,th,rfl,hy⟩,hb1⟩;obtain rfl:=G.Xy hp' HPT.out;clear r0 a7 hp'
  go_upto_region 6 with fail
  have BM:=U0 (X5 hb1 (P6 (w:=w1) (o:=.cells #[vS m.nm,vS m.tl,vS m.ar] 135)));generalize w1.alloc (.cells #[vS m.nm,vS m.tl,vS m.ar] 135)=V at*;have CV:=U0 (CZ.out.below BM.out CZ.out.lt);have BV:=U0 (X5 BZ.out BM.out);have A:=U0 (Cr.out.below BV.out Cr.out.lt);have O:Bw V V.drew:=(Z4 _ _).drew;have CD:=U0 (CV.out.below O CV.out.lt);have HQ:=U0 (X5 HB.out BV.out);clear hb1 CZ BZ BM Crz;have R:Hid (∀ u,Bw V u->u.cell? (aW w 13)=some (vL (some (aA bb off)) b.rn.length q.nc)/\u.cell? (aA bb (off+(k - 1)*6))=some (vS y.nm)/\u.cell? (aW wr 0)=some (vS x.nm)/\u.cell? (aW wr 1)=some (vI x.md)/\u.cell? (aW wr 2)=some (vS x.wt)/\u.cell? (aW wr 3)=some (vL Y x.ls.length X)):=fun u hu=>by
   have h1:=A.out.below hu A.out.lt;have h2:=CV.out.below hu CV.out.lt;refine ⟨(h1.cell 13).trans (by rw [HAq.out];rfl),((X5 BV.out hu).cell (by exact a4s)).trans HP.out,h2.cell 0,h2.cell 1,h2.cell 2,h2.cell 3⟩
  refine wp_region_held_drew (S:=fun u=>u.cell? (aW w 13)=some (vL (some (aA bb off)) b.rn.length q.nc)/\u.cell? (aA bb (off+(k - 1)*6))=some (vS y.nm)/\u.cell? (aW wr 0)=some (vS x.nm)/\u.cell? (aW wr 1)=some (vI x.md)/\u.cell? (aW wr 2)=some (vS x.wt)/\u.cell? (aW wr 3)=some (vL Y x.ls.length X)) Y2 (R.out _ O) fun hH=>?_
  cases th with
  | false=>
   have a:=U0 (f.out (fun h=>by
    rcases hy with ⟨h,_⟩ | ⟨_,hy⟩
    · cases h
    obtain ⟨j,hj,e⟩:=h.1;exact hy j hj e))
   clear hy;refine Y0 0 ?_;refine Y0 1 ?_;refine Y0 2 ?_;refine E5 3 ?_;refine E5 4 ?_;refine E5 5 ?_;refine E5 6 ?_;refine E5 7 ?_;refine E5 8 ?_;refine E5 9 ?_;refine E5 10 ?_;refine E5 11 ?_;refine E5 12 ?_;refine E5 13 ?_;refine E5 14 ?_;refine E5 15 ?_;refine E5 16 ?_;refine Y0 17 ?_;refine Y0 18 ?_;refine E5 19 ?_;refine E5 20 ?_;refine E5 21 ?_;refine E5 22 ?_;refine Y0 23 ?_;refine Y0 24 ?_;refine E5 25 ?_;refine E5 26 ?_;refine E5 27 ?_;refine E5 28 ?_;refine Y0 29 ?_;refine Y0 30 ?_;refine E5 31 ?_;refine E5 32 ?_;refine E5 33 ?_;refine E5 34 ?_;refine E5 35 ?_;refine E5 36 ?_;refine E5 37 ?_;refine E5 38 ?_;refine E5 39 ?_;refine Y0 40 ?_;refine wdn ?_;go_wp2;go_ret;exact ⟨G5 a.out,HQ.out.drew⟩
  | true=>
  have Z:Hid (∃ j,j<ms'.length/\(ms'.getD j D_).nm=x.nm):=by
   rcases hy with ⟨_,i,hi,e1,e2⟩ | ⟨h,_⟩
   · exact ⟨i,hi,by rw [e1];exact e2⟩
   cases h
  clear hy;refine Y0 0 ?_;refine Y0 1 ?_;refine Y0 2 ?_;refine Y0 3 ?_;refine Y0 4 ?_;by_cases h0:0<k;rotate_left
  · have U:Hid (0<k->Op.bytesLess y.nm.toList x.nm.toList=true):=fun h=>absurd h h0;rw [S9 h0];refine Y0 5 ?_;refine E5 6 ?_;refine E5 7 ?_;refine E5 8 ?_;refine E5 9 ?_;refine E5 10 ?_;refine E5 11 ?_;refine E5 12 ?_;refine E5 13 ?_;refine E5 14 ?_;refine E5 15 ?_;refine Y0 16 ?_;refine Y0 17 ?_;refine Y0 18 ?_;refine Y0 19 ?_;refine Y0 20 ?_;refine rq 21 fun K l=>?_;go_simp;refine (xG x.md 0 2 V.drew).mono ?_;rintro e w7 ⟨rfl,hw7⟩;obtain rfl:=hw7.symm;by_cases hmd:0<=x.md/\x.md<=2;rotate_left
    · have a:=U0 (f.out (fun h=>hmd (by rcases h.2.1.2 with ⟨h,_⟩ | ⟨h,_⟩<;>omega)));rw [S9 hmd]
      go_wp2_with fail
      refine E8 l (R.out _ O) fun hH=>?_;clear l K;refine Y0 22 ?_;refine Y0 23 ?_;refine Y0 24 ?_;refine E5 25 ?_;refine E5 26 ?_;refine E5 27 ?_;refine E5 28 ?_;refine Y0 29 ?_;refine Y0 30 ?_;refine E5 31 ?_;refine E5 32 ?_;refine E5 33 ?_;refine E5 34 ?_;refine E5 35 ?_;refine E5 36 ?_;refine E5 37 ?_;refine E5 38 ?_;refine E5 39 ?_;refine Y0 40 ?_;refine wdn ?_;go_wp2;go_ret;exact ⟨G5 a.out,HQ.out.drew⟩
    rw [C_ hmd]
    go_wp2_with fail
    refine E8 l (R.out _ O) fun hH=>?_;clear l K;refine Y0 22 ?_;refine Y0 23 ?_;refine Y0 24 ?_;refine Y0 25 ?_;refine Y0 26 ?_;refine rq 27 fun K l=>?_;go_simp;refine (c99 Y X x.ls V.drew N.out.2.2.1.1 N.out.2.2.1.2 (l7 GL.out (X5 BV.out O))).mono ?_;rintro e w8 ⟨⟨bo,rfl,Q⟩,hb8⟩;have H:=U0 (O.trans (hb8.mono H8));have n:=U0 (X5 HQ.out H.out);have c:=U0 (CD.out.below hb8 CD.out.lt);clear hb8
    go_wp2_with fail
    refine E8 l (R.out _ H.out) fun hH=>?_;clear l K
    cases bo with
    | false=>
     have a:=U0 (f.out (fun h=>by have:=Q.2 h.2.1.1;cases this));clear Q;refine Y0 28 ?_;refine Y0 29 ?_;refine Y0 30 ?_;refine E5 31 ?_;refine E5 32 ?_;refine E5 33 ?_;refine E5 34 ?_;refine E5 35 ?_;refine E5 36 ?_;refine E5 37 ?_;refine E5 38 ?_;refine E5 39 ?_;refine Y0 40 ?_;refine wdn ?_;go_wp2;go_ret;exact ⟨G5 a.out,n.out⟩
    | true=>
    have W:=U0 (Q.1 rfl);clear Q;refine Y0 28 ?_;refine Y0 29 ?_;refine Y0 30 ?_;refine Y0 31 ?_;refine Y0 32 ?_;by_cases I:x.wt=⟨#[]⟩
    · have HWT:Hid (lH x.wt):=.inl I;have z:(x.wt.toList==([]:List UInt8))=true:=by rw [I,ByteArray.toList_eq];rfl
      refine Y0 33 ?_;refine Y0 34 ?_;refine E5 35 ?_;refine E5 36 ?_;refine E5 37 ?_;refine E5 38 ?_;refine Y0 39 ?_;refine Y0 40 ?_;refine wdn ?_;have E:=c.out.cell 1;have d:=c.out.cell 2;have p:=c.out.cell 4;have D:=c.out.cell 5;simp only [@gz Value] at E d p D;by_cases h2:x.md=2
      · rw [h2] at E;have L:=U0 (jI x.cd x.tx w8 (by have:=N.out.2.2.2;omega))
        go_wp2_with fail
        refine L.out.mono ?_;rintro e w9 ⟨rfl,v⟩;have C9:=U0 (c.out.below v c.out.lt);have J:=U0 (X5 n.out v);have K9:=U0 (A.out.below (X5 H.out v) A.out.lt);clear v L E d p D;have d:=C9.out.cell 2;simp only [@gz Value] at d;by_cases hv:vr x.cd x.tx.data.toList=true
        · rw [hv];by_cases C:x.wt=⟨#[]⟩
          · have F:=U0 (HD.out ⟨Z.out,⟨W.out,.inr ⟨h2,hv,C⟩⟩,U.out⟩);rw [C] at d;go_wp2;go_roundw
            case rel=>exact ⟨k+1,O0,by go_num,F,K9,J.out⟩
            case measure=>simp [RowKit.intOf];omega
          exact absurd I C
        rw [Fh.2 hv];have a:=U0 (f.out (fun h=>by
         rcases h.2.1.2 with ⟨h,_⟩ | ⟨_,h,_⟩
         · omega
         exact hv h))
        go_wp2;go_ret;exact ⟨G5 a.out,J.out⟩
      by_cases t:x.cd=0;rotate_left
      · have a:=U0 (f.out (fun h=>by
         rcases h.2.1.2 with ⟨_,h,_⟩ | ⟨h,_⟩
         · exact t h.1
         exact h2 h))
        go_wp2;go_ret;exact ⟨G5 a.out,n.out⟩
      by_cases r:x.tx=⟨#[]⟩;rotate_left
      · have a:=U0 (f.out (fun h=>by
         rcases h.2.1.2 with ⟨_,h,_⟩ | ⟨h,_⟩
         · exact r h.2
         exact h2 h))
        have z:=Qe r;have z1:=p_.1 z;rw [t] at p;go_wp2;go_ret;exact ⟨G5 a.out,n.out⟩
      have F:=U0 (HD.out ⟨Z.out,⟨W.out,.inl ⟨O0,⟨t,r⟩,HWT.out⟩⟩,U.out⟩);rw [t] at p;rw [r] at D;go_wp2;go_roundw
      case rel=>exact ⟨k+1,O0,by go_num,F,A.out.below H.out A.out.lt,n.out⟩
      case measure=>simp [RowKit.intOf];omega
    have z:=Qe I;refine Y0 33 ?_;refine Y0 34 ?_;refine Y0 35 ?_;refine Y0 36 ?_;refine rq 37 fun K l=>?_;go_simp;refine (NJ x.wt w8 (by have:=N.out.2.1;omega)).mono ?_;rintro e w7 ⟨rfl,hw7⟩;obtain rfl:=hw7.symm
    go_wp2_with fail
    refine E8 l (R.out _ H.out) fun hH=>?_;clear l K;by_cases P:Y5 x.wt.data.toList=true;rotate_left
    · have a:=U0 (f.out (fun h=>by
       rcases h.2.1.2 with ⟨_,_,h⟩ | ⟨_,_,h⟩
       · exact P (h.resolve_left I)
       exact I h))
      rw [Fh.2 P];refine Y0 38 ?_;refine Y0 39 ?_;refine Y0 40 ?_;refine wdn ?_;go_wp2;go_ret;exact ⟨G5 a.out,n.out⟩
    have HWT:Hid (lH x.wt):=.inr P;rw [P];refine Y0 38 ?_;refine Y0 39 ?_;refine Y0 40 ?_;refine wdn ?_;have E:=c.out.cell 1;have d:=c.out.cell 2;have p:=c.out.cell 4;have D:=c.out.cell 5;simp only [@gz Value] at E d p D;by_cases h2:x.md=2
    · rw [h2] at E;have L:=U0 (jI x.cd x.tx w8 (by have:=N.out.2.2.2;omega))
      go_wp2_with fail
      refine L.out.mono ?_;rintro e w9 ⟨rfl,v⟩;have C9:=U0 (c.out.below v c.out.lt);have J:=U0 (X5 n.out v);have K9:=U0 (A.out.below (X5 H.out v) A.out.lt);clear v L E d p D;have d:=C9.out.cell 2;simp only [@gz Value] at d;by_cases hv:vr x.cd x.tx.data.toList=true
      · rw [hv];by_cases C:x.wt=⟨#[]⟩
        · have F:=U0 (HD.out ⟨Z.out,⟨W.out,.inr ⟨h2,hv,C⟩⟩,U.out⟩);rw [C] at d;go_wp2;go_roundw
          case rel=>exact ⟨k+1,O0,by go_num,F,K9,J.out⟩
          case measure=>simp [RowKit.intOf];omega
        have z:=Qe C;have a:=U0 (f.out (fun h=>by
         rcases h.2.1.2 with ⟨h,_⟩ | ⟨_,_,h⟩
         · omega
         exact C h))
        go_wp2;go_ret;exact ⟨G5 a.out,J.out⟩
      rw [Fh.2 hv];have a:=U0 (f.out (fun h=>by
       rcases h.2.1.2 with ⟨h,_⟩ | ⟨_,h,_⟩
       · omega
       exact hv h))
      go_wp2;go_ret;exact ⟨G5 a.out,J.out⟩
    by_cases t:x.cd=0;rotate_left
    · have a:=U0 (f.out (fun h=>by
       rcases h.2.1.2 with ⟨_,h,_⟩ | ⟨h,_⟩
       · exact t h.1
       exact h2 h))
      go_wp2;go_ret;exact ⟨G5 a.out,n.out⟩
    by_cases r:x.tx=⟨#[]⟩;rotate_left
    · have a:=U0 (f.out (fun h=>by
       rcases h.2.1.2 with ⟨_,h,_⟩ | ⟨h,_⟩
       · exact r h.2
       exact h2 h))
      have z:=Qe r;have z1:=p_.1 z;rw [t] at p;go_wp2;go_ret;exact ⟨G5 a.out,n.out⟩
    have F:=U0 (HD.out ⟨Z.out,⟨W.out,.inl ⟨O0,⟨t,r⟩,HWT.out⟩⟩,U.out⟩);rw [t] at p;rw [r] at D;go_wp2;go_roundw
    case rel=>exact ⟨k+1,O0,by go_num,F,A.out.below H.out A.out.lt,n.out⟩
    case measure=>simp [RowKit.intOf];omega
  rw [C_ h0];refine Y0 5 ?_;refine Y0 6 ?_;refine Y0 7 ?_;refine Y0 8 ?_;refine Y0 9 ?_;have hk1:k - 1<b.rn.length:=O0;rw [show (k:Int) - 1=((k - 1:Nat):Int) by omega,T.Fa (k - 1) O0];refine Y0 10 ?_;refine Y0 11 ?_;refine Y0 12 ?_;refine Y0 13 ?_;refine Y0 14 ?_;refine Y0 15 ?_;by_cases hls:Op.bytesLess y.nm.toList x.nm.toList=true;rotate_left
  · have a:=U0 (f.out (fun h=>hls (h.2.2 h0)));rw [Fh.2 hls,oI];refine Y0 16 ?_;refine Y0 17 ?_;refine Y0 18 ?_;refine E5 19 ?_;refine E5 20 ?_;refine E5 21 ?_;refine E5 22 ?_;refine Y0 23 ?_;refine Y0 24 ?_;refine E5 25 ?_;refine E5 26 ?_;refine E5 27 ?_;refine E5 28 ?_;refine Y0 29 ?_;refine Y0 30 ?_;refine E5 31 ?_;refine E5 32 ?_;refine E5 33 ?_;refine E5 34 ?_;refine E5 35 ?_;refine E5 36 ?_;refine E5 37 ?_;refine E5 38 ?_;refine E5 39 ?_;refine Y0 40 ?_;refine wdn ?_;go_wp2;go_ret;exact ⟨G5 a.out,HQ.out.drew⟩
  have U:Hid (0<k->Op.bytesLess y.nm.toList x.nm.toList=true):=fun _=>hls;rw [hls,XI];refine Y0 16 ?_;refine Y0 17 ?_;refine Y0 18 ?_;refine Y0 19 ?_;refine Y0 20 ?_;refine rq 21 fun K l=>?_;go_simp;refine (xG x.md 0 2 V.drew).mono ?_;rintro e w7 ⟨rfl,hw7⟩;obtain rfl:=hw7.symm;by_cases hmd:0<=x.md/\x.md<=2;rotate_left
  · have a:=U0 (f.out (fun h=>hmd (by rcases h.2.1.2 with ⟨h,_⟩ | ⟨h,_⟩<;>omega)));rw [S9 hmd]
    go_wp2_with fail
    refine E8 l (R.out _ O) fun hH=>?_;clear l K;refine Y0 22 ?_;refine Y0 23 ?_;refine Y0 24 ?_;refine E5 25 ?_;refine E5 26 ?_;refine E5 27 ?_;refine E5 28 ?_;refine Y0 29 ?_;refine Y0 30 ?_;refine E5 31 ?_;refine E5 32 ?_;refine E5 33 ?_;refine E5 34 ?_;refine E5 35 ?_;refine E5 36 ?_;refine E5 37 ?_;refine E5 38 ?_;refine E5 39 ?_;refine Y0 40 ?_;refine wdn ?_;go_wp2;go_ret;exact ⟨G5 a.out,HQ.out.drew⟩
  rw [C_ hmd]
  go_wp2_with fail
  refine E8 l (R.out _ O) fun hH=>?_;clear l K;refine Y0 22 ?_;refine Y0 23 ?_;refine Y0 24 ?_;refine Y0 25 ?_;refine Y0 26 ?_;refine rq 27 fun K l=>?_;go_simp;refine (c99 Y X x.ls V.drew N.out.2.2.1.1 N.out.2.2.1.2 (l7 GL.out (X5 BV.out O))).mono ?_;rintro e w8 ⟨⟨bo,rfl,Q⟩,hb8⟩;have H:=U0 (O.trans (hb8.mono H8));have n:=U0 (X5 HQ.out H.out);have c:=U0 (CD.out.below hb8 CD.out.lt);clear hb8
  go_wp2_with fail
  refine E8 l (R.out _ H.out) fun hH=>?_;clear l K
  cases bo with
  | false=>
   have a:=U0 (f.out (fun h=>by have:=Q.2 h.2.1.1;cases this));clear Q;refine Y0 28 ?_;refine Y0 29 ?_;refine Y0 30 ?_;refine E5 31 ?_;refine E5 32 ?_;refine E5 33 ?_;refine E5 34 ?_;refine E5 35 ?_;refine E5 36 ?_;refine E5 37 ?_;refine E5 38 ?_;refine E5 39 ?_;refine Y0 40 ?_;refine wdn ?_;go_wp2;go_ret;exact ⟨G5 a.out,n.out⟩
  | true=>
  have W:=U0 (Q.1 rfl);clear Q;refine Y0 28 ?_;refine Y0 29 ?_;refine Y0 30 ?_;refine Y0 31 ?_;refine Y0 32 ?_;by_cases I:x.wt=⟨#[]⟩
  · have HWT:Hid (lH x.wt):=.inl I;have z:(x.wt.toList==([]:List UInt8))=true:=by rw [I,ByteArray.toList_eq];rfl
    refine Y0 33 ?_;refine Y0 34 ?_;refine E5 35 ?_;refine E5 36 ?_;refine E5 37 ?_;refine E5 38 ?_;refine Y0 39 ?_;refine Y0 40 ?_;refine wdn ?_;have E:=c.out.cell 1;have d:=c.out.cell 2;have p:=c.out.cell 4;have D:=c.out.cell 5;simp only [@gz Value] at E d p D;by_cases h2:x.md=2
    · rw [h2] at E;have L:=U0 (jI x.cd x.tx w8 (by have:=N.out.2.2.2;omega))
      go_wp2_with fail
      refine L.out.mono ?_;rintro e w9 ⟨rfl,v⟩;have C9:=U0 (c.out.below v c.out.lt);have J:=U0 (X5 n.out v);have K9:=U0 (A.out.below (X5 H.out v) A.out.lt);clear v L E d p D;have d:=C9.out.cell 2;simp only [@gz Value] at d;by_cases hv:vr x.cd x.tx.data.toList=true
      · rw [hv];by_cases C:x.wt=⟨#[]⟩
        · have F:=U0 (HD.out ⟨Z.out,⟨W.out,.inr ⟨h2,hv,C⟩⟩,U.out⟩);rw [C] at d;go_wp2;go_roundw
          case rel=>exact ⟨k+1,O0,by go_num,F,K9,J.out⟩
          case measure=>simp [RowKit.intOf];omega
        exact absurd I C
      rw [Fh.2 hv];have a:=U0 (f.out (fun h=>by
       rcases h.2.1.2 with ⟨h,_⟩ | ⟨_,h,_⟩
       · omega
       exact hv h))
      go_wp2;go_ret;exact ⟨G5 a.out,J.out⟩
    by_cases t:x.cd=0;rotate_left
    · have a:=U0 (f.out (fun h=>by
       rcases h.2.1.2 with ⟨_,h,_⟩ | ⟨h,_⟩
       · exact t h.1
       exact h2 h))
      go_wp2;go_ret;exact ⟨G5 a.out,n.out⟩
    by_cases r:x.tx=⟨#[]⟩;rotate_left
    · have a:=U0 (f.out (fun h=>by
       rcases h.2.1.2 with ⟨_,h,_⟩ | ⟨h,_⟩
       · exact r h.2
       exact h2 h))
      have z:=Qe r;have z1:=p_.1 z;rw [t] at p;go_wp2;go_ret;exact ⟨G5 a.out,n.out⟩
    have F:=U0 (HD.out ⟨Z.out,⟨W.out,.inl ⟨O0,⟨t,r⟩,HWT.out⟩⟩,U.out⟩);rw [t] at p;rw [r] at D;go_wp2;go_roundw
    case rel=>exact ⟨k+1,O0,by go_num,F,A.out.below H.out A.out.lt,n.out⟩
    case measure=>simp [RowKit.intOf];omega
  have z:=Qe I;refine Y0 33 ?_;refine Y0 34 ?_;refine Y0 35 ?_;refine Y0 36 ?_;refine rq 37 fun K l=>?_;go_simp;refine (NJ x.wt w8 (by have:=N.out.2.1;omega)).mono ?_;rintro e w7 ⟨rfl,hw7⟩;obtain rfl:=hw7.symm
  go_wp2_with fail
  refine E8 l (R.out _ H.out) fun hH=>?_;clear l K;by_cases P:Y5 x.wt.data.toList=true;rotate_left
  · have a:=U0 (f.out (fun h=>by
     rcases h.2.1.2 with ⟨_,_,h⟩ | ⟨_,_,h⟩
     · exact P (h.resolve_left I)
     exact I h))
    rw [Fh.2 P];refine Y0 38 ?_;refine Y0 39 ?_;refine Y0 40 ?_;refine wdn ?_;go_wp2;go_ret;exact ⟨G5 a.out,n.out⟩
  have HWT:Hid (lH x.wt):=.inr P;rw [P];refine Y0 38 ?_;refine Y0 39 ?_;refine Y0 40 ?_;refine wdn ?_;have E:=c.out.cell 1;have d:=c.out.cell 2;have p:=c.out.cell 4;have D:=c.out.cell 5;simp only [@gz Value] at E d p D;by_cases h2:x.md=2
  · rw [h2] at E;have L:=U0 (jI x.cd x.tx w8 (by have:=N.out.2.2.2;omega))
    go_wp2_with fail
    refine L.out.mono ?_;rintro e w9 ⟨rfl,v⟩;have C9:=U0 (c.out.below v c.out.lt);have J:=U0 (X5 n.out v);have K9:=U0 (A.out.below (X5 H.out v) A.out.lt);clear v L E d p D;have d:=C9.out.cell 2;simp only [@gz Value] at d;by_cases hv:vr x.cd x.tx.data.toList=true
    · rw [hv];by_cases C:x.wt=⟨#[]⟩
      · have F:=U0 (HD.out ⟨Z.out,⟨W.out,.inr ⟨h2,hv,C⟩⟩,U.out⟩);rw [C] at d;go_wp2;go_roundw
        case rel=>exact ⟨k+1,O0,by go_num,F,K9,J.out⟩
        case measure=>simp [RowKit.intOf];omega
      have z:=Qe C;have a:=U0 (f.out (fun h=>by
       rcases h.2.1.2 with ⟨h,_⟩ | ⟨_,_,h⟩
       · omega
       exact C h))
      go_wp2;go_ret;exact ⟨G5 a.out,J.out⟩
    rw [Fh.2 hv];have a:=U0 (f.out (fun h=>by
     rcases h.2.1.2 with ⟨h,_⟩ | ⟨_,h,_⟩
     · omega
     exact hv h))
    go_wp2;go_ret;exact ⟨G5 a.out,J.out⟩
  by_cases t:x.cd=0;rotate_left
  · have a:=U0 (f.out (fun h=>by
     rcases h.2.1.2 with ⟨_,h,_⟩ | ⟨h,_⟩
     · exact t h.1
     exact h2 h))
    go_wp2;go_ret;exact ⟨G5 a.out,n.out⟩
  by_cases r:x.tx=⟨#[]⟩;rotate_left
  · have a:=U0 (f.out (fun h=>by
     rcases h.2.1.2 with ⟨_,h,_⟩ | ⟨h,_⟩
     · exact r h.2
     exact h2 h))
    have z:=Qe r;have z1:=p_.1 z;rw [t] at p;go_wp2;go_ret;exact ⟨G5 a.out,n.out⟩
  have F:=U0 (HD.out ⟨Z.out,⟨W.out,.inl ⟨O0,⟨t,r⟩,HWT.out⟩⟩,U.out⟩);rw [t] at p;rw [r] at D;go_wp2;go_roundw
  case rel=>exact ⟨k+1,O0,by go_num,F,A.out.below H.out A.out.lt,n.out⟩
  case measure=>simp [RowKit.intOf];omega
def JbP (b:Bs) (i:Nat):Prop:=(∃ t:Nat,t<b.rn.length/\(b.rn.getD t X_).nm=(b.jb.getD i Jc).nm/\(∀ j,j<t->(b.rn.getD j X_).nm≠(b.jb.getD i Jc).nm)/\(b.rn.getD t X_).md=1/\(b.rn.getD t X_).wt=⟨#[]⟩)/\(0<i->Op.bytesLess (b.jb.getD (i - 1) Jc).nm.toList (b.jb.getD i Jc).nm.toList=true)/\(1<=(b.jb.getD i Jc).wk/\(b.jb.getD i Jc).wk<=b.hd.length)/\(b.now<=(b.jb.getD i Jc).un/\(b.jb.getD i Jc).un<=b.now+6)/\∀ j,j<i->(b.jb.getD j Jc).wk≠(b.jb.getD i Jc).wk
def mY (b:Bs):Prop:=∀ i,i<b.jb.length->JbP b i
theorem c64 (b:Bs) (q:Ba) (w:World) (hl:Gj b 1048576) (hnw:0<=b.now/\b.now<=1000000) (hat:Oh w b q):
 Calls prog 64 #[.agg #[.int .i64 b.wd,.bool b.up,.int .i64 b.now,.int .i64 b.ep,.int .i64 b.ed,.slice q.sa b.sf.length q.sc,.slice q.la b.lo.length q.lc,.slice q.fa b.fs.length q.fc,.int .i64 b.s.wd,.slice q.ta b.s.ts.length q.tc,.slice q.ra b.s.rs.length q.rc,.slice q.ha b.hd.length q.hc,.slice q.oa b.rt.length q.oc,.slice q.na b.rn.length q.nc,.slice q.ja b.jb.length q.jc]] w fun e w'=>Rb (mY b) e/\Bw w w':=by
 obtain ⟨hn1,hn2⟩:=hnw;have hw6:IntKind.i64.wrap (b.now+6)=b.now+6:=by rw [GI];omega
 have HA:=U0 hat;have HL0:=U0 hl;have hjl:=hl.jl;have hrl:=hl.nl;have hhl:=hl.hl;obtain ⟨J,I,hc⟩:=N_ hat.jb;have HC:=U0 hc;clear hat hl hc;go_enter func64,ntmps64
 go_upto_region 1 with fail
 have C0:=U0 (Y4 w [vI b.wd,.bool b.up,vI b.now,vI b.ep,vI b.ed,vL q.sa b.sf.length q.sc,vL q.la b.lo.length q.lc,vL q.fa b.fs.length q.fc,vI b.s.wd,vL q.ta b.s.ts.length q.tc,vL q.ra b.s.rs.length q.rc,vL q.ha b.hd.length q.hc,vL q.oa b.rt.length q.oc,vL q.na b.rn.length q.nc,vL q.ja b.jb.length q.jc] 47);have B0:=U0 (P6 (w:=w) (o:=.cells #[vI b.wd,.bool b.up,vI b.now,vI b.ep,vI b.ed,vL q.sa b.sf.length q.sc,vL q.la b.lo.length q.lc,vL q.fa b.fs.length q.fc,vI b.s.wd,vL q.ta b.s.ts.length q.tc,vL q.ra b.s.rs.length q.rc,vL q.ha b.hd.length q.hc,vL q.oa b.rt.length q.oc,vL q.na b.rn.length q.nc,vL q.ja b.jb.length q.jc] 47));generalize w.alloc (.cells #[vI b.wd,.bool b.up,vI b.now,vI b.ep,vI b.ed,vL q.sa b.sf.length q.sc,vL q.la b.lo.length q.lc,vL q.fa b.fs.length q.fc,vI b.s.wd,vL q.ta b.s.ts.length q.tc,vL q.ra b.s.rs.length q.rc,vL q.ha b.hd.length q.hc,vL q.oa b.rt.length q.oc,vL q.na b.rn.length q.nc,vL q.ja b.jb.length q.jc] 47)=V0 at*
 go_wp2_with fail
 go_loopw [3] (fun i wr=>∃ k:Nat,k<=b.jb.length/\i=.int .i64 k/\Hid (∀ i,i<k->JbP b i)/\Hid (Cl wr w.heap.size 47 [.int .i64 b.wd,.bool b.up,.int .i64 b.now,.int .i64 b.ep,.int .i64 b.ed,.slice q.sa b.sf.length q.sc,.slice q.la b.lo.length q.lc,.slice q.fa b.fs.length q.fc,.int .i64 b.s.wd,.slice q.ta b.s.ts.length q.tc,.slice q.ra b.s.rs.length q.rc,.slice q.ha b.hd.length q.hc,.slice q.oa b.rt.length q.oc,.slice q.na b.rn.length q.nc,.slice q.ja b.jb.length q.jc])/\Below w.heap.size w wr) (fun i _=>b.jb.length - (RowKit.intOf i).toNat)
 case atStart=>exact ⟨0,J4 _,rfl,fun j h=>absurd h (J8 _),C0,B0.out⟩
 case round=>
  generalize wr=l at*;obtain ⟨k,hk,rfl,hd,Cr,hb⟩:=hrel;have W:=U0 hb;clear hb;have E:=Cr.out.cell 14;simp only [@gz Value] at E;by_cases hlt:k<b.jb.length;rotate_left
  · obtain rfl:k=b.jb.length:=O0;have HY:Hid (mY b):=hd.out;go_wp2;go_ret;exact ⟨u_ HY.out,W.out⟩
  obtain ⟨ha,hbw,hcell⟩:=Cc HC.out hlt;have a4s:=O9 hbw W.out.size;have HJ0:Hid (∀ t,t<b.jb.length->∀ u,Bw l u->Bc u J (I+t*3) (VT (b.jb.getD t Jc))):=fun t ht u m=>((hcell t ht).below hbw W.out).below a4s m;have p:Hid (¬ JbP b k->¬ mY b):=fun N h=>N (h k hlt);have HD:Hid (JbP b k->∀ i,i<k+1->JbP b i):=fun N j hj=>by
   rcases Q7 j k with h | h
   · exact hd.out j h
   · obtain rfl:j=k:=O0;exact N
  unfold JbP at p HD;have HX:=U0 (HJ0.out k hlt);have HYP:Hid (∀ u,Bw l u->u.cell? (aA J (I+(k - 1)*3))=some (vS (b.jb.getD (k - 1) Jc).nm)):=fun u m=>HJ0.out (k - 1) O0 u m 0 _ rfl;generalize b.jb.getD k Jc=x at*;generalize b.jb.getD (k - 1) Jc=y at*;rw [ha] at E;have HAq:=U0 ha;have g0:=HX.out l (Z4 _ _) 0 _ rfl;have g1:=HX.out l (Z4 _ _) 1 _ rfl;have g2:=HX.out l (Z4 _ _) 2 _ rfl;dsimp only [Nat.add_zero] at g0;clear hcell hd ha
  go_upto_region 5 with fail
  have CD1:=U0 (Y4 l [vS x.nm,vI x.wk,vI x.un] 107);have BV1:=U0 (P6 (w:=l) (o:=.cells #[vS x.nm,vI x.wk,vI x.un] 107));generalize l.alloc (.cells #[vS x.nm,vI x.wk,vI x.un] 107)=V1 at*;have CV1:=U0 (Cr.out.below BV1.out Cr.out.lt);clear g0 g1 g2 E;have r0:=CD1.out.cell 0;simp only [@gz Value] at r0
  go_wp2_with (refine Y9 rfl (X8 47 _ rfl (B:=w.heap.size) (j:=0) (cs:=[vI b.wd,.bool b.up,vI b.now,vI b.ep,vI b.ed,vL q.sa b.sf.length q.sc,vL q.la b.lo.length q.lc,vL q.fa b.fs.length q.fc,vI b.s.wd,vL q.ta b.s.ts.length q.tc,vL q.ra b.s.rs.length q.rc,vL q.ha b.hd.length q.hc,vL q.oa b.rt.length q.oc,vL q.na b.rn.length q.nc,vL q.ja b.jb.length q.jc]) rfl (fun q v e=>by rw [L8];exact (CV1.out.cell q).trans e) underlying47 rfl Y2) ?_)
  refine (a1R b q x.nm V1 hrl (Le HA.out.rn (X5 W.out BV1.out))).mono ?_;rintro e V ⟨⟨r,rfl,hr⟩,hb1⟩;have BV:=U0 (X5 BV1.out hb1);have Q:=U0 (CV1.out.below hb1 CV1.out.lt);have P:=U0 (CD1.out.below hb1 CD1.out.lt);have HQ:=U0 (X5 W.out BV.out);have hvd:Bw V V.drew:=(Z4 _ _).drew;clear hb1 r0 CV1 CD1 BV1
  go_upto_region 6 with fail
  rcases hr with ⟨rfl,hno⟩ | ⟨i,rfl,hi,hnm,a5a⟩
  · have c:=U0 (p.out (fun h=>by
     obtain ⟨t,ht,e,_⟩:=h.1;exact hno t ht e))
    refine wp_region_held_drew (S:=fun _=>True) Y2 trivial fun hH=>?_;refine Y0 0 ?_;refine Y0 1 ?_;refine Y0 2 ?_;refine E5 3 ?_;refine E5 4 ?_;refine E5 5 ?_;refine E5 6 ?_;refine E5 7 ?_;refine E5 8 ?_;refine E5 9 ?_;refine Y0 10 ?_;refine Y0 11 ?_;refine E5 12 ?_;refine E5 13 ?_;refine E5 14 ?_;refine E5 15 ?_;refine E5 16 ?_;refine E5 17 ?_;refine E5 18 ?_;refine E5 19 ?_;refine E5 20 ?_;refine E5 21 ?_;refine E5 22 ?_;refine E5 23 ?_;refine E5 24 ?_;refine E5 25 ?_;refine Y0 26 ?_;refine Y0 27 ?_;refine E5 28 ?_;refine E5 29 ?_;refine E5 30 ?_;refine E5 31 ?_;refine E5 32 ?_;refine E5 33 ?_;refine E5 34 ?_;refine Y0 35 ?_;refine Y0 36 ?_;refine E5 37 ?_;refine E5 38 ?_;refine E5 39 ?_;refine E5 40 ?_;refine E5 41 ?_;refine E5 42 ?_;refine E5 43 ?_;refine E5 44 ?_;refine E5 45 ?_;refine Y0 46 ?_;refine wdn ?_;go_wp2;go_ret;exact ⟨G5 c.out,HQ.out.drew⟩
  rcases N_ HA.out.rn with ⟨R,off,hss | ⟨han,hbn,hcn⟩⟩
  · rw [hss] at hi;exact absurd hi (J8 _)
  obtain ⟨ai,ci,gB,gL⟩:=(hcn i hi).below hbn HQ.out;have a6m:=O9 hbn HQ.out.size;have HF:Hid ((b.rn.getD i X_).md=1/\(b.rn.getD i X_).wt=⟨#[]⟩->∃ t:Nat,t<b.rn.length/\(b.rn.getD t X_).nm=x.nm/\(∀ j,j<t->(b.rn.getD j X_).nm≠x.nm)/\(b.rn.getD t X_).md=1/\(b.rn.getD t X_).wt=⟨#[]⟩):=fun h=>⟨i,hi,hnm,a5a,h⟩;have HF2:Hid ((∃ t:Nat,t<b.rn.length/\(b.rn.getD t X_).nm=x.nm/\(∀ j,j<t->(b.rn.getD j X_).nm≠x.nm)/\(b.rn.getD t X_).md=1/\(b.rn.getD t X_).wt=⟨#[]⟩)->(b.rn.getD i X_).md=1/\(b.rn.getD i X_).wt=⟨#[]⟩):=fun ⟨t,ht,e1,e2,e3⟩=>by
   rcases Qv t i with h | h | h
   · exact absurd e1 (a5a t h)
   · rw [<- h];exact e3
   exact absurd hnm (e2 i h)
  have GB:=U0 gB;have HAn:=U0 han;generalize b.rn.getD i X_=z at*;clear hcn han gB gL hnm a5a;have n:Hid (∀ u,Bw V u->u.cell? (aW w 2)=some (vI b.now)/\u.cell? (aW w 11)=some (vL q.ha b.hd.length q.hc)/\u.cell? (aW w 13)=some (vL (some (aA R off)) b.rn.length q.nc)/\u.cell? (aW w 14)=some (vL (some (aA J I)) b.jb.length q.jc)/\u.cell? (aA J (I+(k - 1)*3))=some (vS y.nm)/\u.cell? (aW l 0)=some (vS x.nm)/\u.cell? (aW l 1)=some (vI x.wk)/\u.cell? (aW l 2)=some (vI x.un)/\Bc u R (off+i*6) (Nz (z,vL ai z.ls.length ci))):=fun u m=>by
   have h1:=Q.out.below m Q.out.lt;have h2:=P.out.below m P.out.lt;have h3:=X5 BV.out m;exact ⟨h1.cell 2,h1.cell 11,(h1.cell 13).trans (by rw [HAn.out];rfl),(h1.cell 14).trans (by rw [HAq.out];rfl),HYP.out u h3,h2.cell 0,h2.cell 1,h2.cell 2,GB.out.below a6m m⟩
  have HJC:Hid (∀ t,t<b.jb.length->∀ u,Bw V u->u.cell? (aA J (I+t*3+1))=some (vI (b.jb.getD t Jc).wk)):=fun t ht u m=>HJ0.out t ht u (X5 BV.out m) 1 _ rfl;refine wp_region_held_drew (S:=fun u=>u.cell? (aW w 2)=some (vI b.now)/\u.cell? (aW w 11)=some (vL q.ha b.hd.length q.hc)/\u.cell? (aW w 13)=some (vL (some (aA R off)) b.rn.length q.nc)/\u.cell? (aW w 14)=some (vL (some (aA J I)) b.jb.length q.jc)/\u.cell? (aA J (I+(k - 1)*3))=some (vS y.nm)/\u.cell? (aW l 0)=some (vS x.nm)/\u.cell? (aW l 1)=some (vI x.wk)/\u.cell? (aW l 2)=some (vI x.un)/\Bc u R (off+i*6) (Nz (z,vL ai z.ls.length ci))) Y2 (n.out _ hvd) fun hH=>?_;have hi0:¬ (i:Int)<0:=O0;refine Y0 0 ?_;refine Y0 1 ?_;refine Y0 2 ?_;refine Y0 3 ?_;refine Y0 4 ?_;refine Y0 5 ?_;refine Y0 6 ?_;refine tq 7 hH ?_ (hv:=fun u m=>X8 105 _ rfl (B:=R) (j:=off+i*6) (cs:=Nz (z,vL ai z.ls.length ci)) rfl m.2.2.2.2.2.2.2.2 underlying105 rfl Y2)
  try simp only [qq]
  refine rq 8 fun K a=>?_;go_simp;refine (a3J z ai ci V.drew).mono ?_;rintro e F ⟨⟨bo,rfl,hbo⟩,hb8⟩;have d:=U0 (hvd.trans (hb8.mono H8));have H:=U0 (X5 HQ.out d.out);clear hb8
  go_wp2_with fail
  refine E8 a (n.out _ d.out) fun hH=>?_;clear a K
  cases bo with
  | false=>
   have c:=U0 (p.out (fun h=>by have:=hbo.2 (HF2.out h.1);cases this));clear hbo;refine Y0 9 ?_;refine Y0 10 ?_;refine Y0 11 ?_;refine E5 12 ?_;refine E5 13 ?_;refine E5 14 ?_;refine E5 15 ?_;refine E5 16 ?_;refine E5 17 ?_;refine E5 18 ?_;refine E5 19 ?_;refine E5 20 ?_;refine E5 21 ?_;refine E5 22 ?_;refine E5 23 ?_;refine E5 24 ?_;refine E5 25 ?_;refine Y0 26 ?_;refine Y0 27 ?_;refine E5 28 ?_;refine E5 29 ?_;refine E5 30 ?_;refine E5 31 ?_;refine E5 32 ?_;refine E5 33 ?_;refine E5 34 ?_;refine Y0 35 ?_;refine Y0 36 ?_;refine E5 37 ?_;refine E5 38 ?_;refine E5 39 ?_;refine E5 40 ?_;refine E5 41 ?_;refine E5 42 ?_;refine E5 43 ?_;refine E5 44 ?_;refine E5 45 ?_;refine Y0 46 ?_;refine wdn ?_;go_wp2;go_ret;exact ⟨G5 c.out,H.out⟩
  | true=>
  have a5w:=U0 (HF.out (hbo.1 rfl));clear hbo;refine Y0 9 ?_;refine Y0 10 ?_;refine Y0 11 ?_;refine Y0 12 ?_;refine Y0 13 ?_;by_cases h0:0<k;rotate_left
  · have HLS:Hid (0<k->Op.bytesLess y.nm.toList x.nm.toList=true):=fun h=>absurd h h0;rw [S9 h0];refine Y0 14 ?_;refine E5 15 ?_;refine E5 16 ?_;refine E5 17 ?_;refine E5 18 ?_;refine E5 19 ?_;refine E5 20 ?_;refine E5 21 ?_;refine E5 22 ?_;refine E5 23 ?_;refine E5 24 ?_;refine Y0 25 ?_;refine Y0 26 ?_;refine Y0 27 ?_;refine Y0 28 ?_;refine Y0 29 ?_;refine Y0 30 ?_;refine Y0 31 ?_;refine Y0 32 ?_;refine rq 33 fun K a=>?_;go_simp;refine (xG x.wk 1 b.hd.length F).mono ?_;rintro e w7 ⟨rfl,L⟩;obtain rfl:=L.symm;by_cases C:1<=x.wk/\x.wk<=b.hd.length;rotate_left
    · have c:=U0 (p.out (fun h=>C h.2.2.1));rw [S9 C]
      go_wp2_with fail
      refine E8 a (n.out _ d.out) fun hH=>?_;clear a K;refine Y0 34 ?_;refine Y0 35 ?_;refine Y0 36 ?_;refine E5 37 ?_;refine E5 38 ?_;refine E5 39 ?_;refine E5 40 ?_;refine E5 41 ?_;refine E5 42 ?_;refine E5 43 ?_;refine E5 44 ?_;refine E5 45 ?_;refine Y0 46 ?_;refine wdn ?_;go_wp2;go_ret;exact ⟨G5 c.out,H.out⟩
    rw [C_ C]
    go_wp2_with fail
    refine E8 a (n.out _ d.out) fun hH=>?_;clear a K;refine Y0 34 ?_;refine Y0 35 ?_;refine Y0 36 ?_;refine Y0 37 ?_;refine Y0 38 ?_;refine Y0 39 ?_;refine Y0 40 ?_;refine Y0 41 ?_;refine Y0 42 ?_;refine Y0 43 ?_
    try rw [hw6]
    refine rq 44 fun K a=>?_;go_simp;refine (xG x.un b.now (b.now+6) F).mono ?_;rintro e w7 ⟨rfl,L⟩;obtain rfl:=L.symm;by_cases D:b.now<=x.un/\x.un<=b.now+6;rotate_left
    · have c:=U0 (p.out (fun h=>D h.2.2.2.1));rw [S9 D]
      go_wp2_with fail
      refine E8 a (n.out _ d.out) fun hH=>?_;clear a K;refine Y0 45 ?_;refine Y0 46 ?_;refine wdn ?_;go_wp2;go_ret;exact ⟨G5 c.out,H.out⟩
    rw [C_ D]
    go_wp2_with fail
    refine E8 a (n.out _ d.out) fun hH=>?_;clear a K;refine Y0 45 ?_;refine Y0 46 ?_;refine wdn ?_;have C5:=U0 (Q.out.below d.out Q.out.lt);have X:=U0 (P.out.below d.out P.out.lt)
    go_wp2_with fail
    go_loopw [6] (fun i wr=>∃ t:Nat,t<=k/\i=.int .i64 t/\Hid (∀ j,j<t->(b.jb.getD j Jc).wk≠x.wk)/\Below F.heap.size F wr) (fun i _=>k - (RowKit.intOf i).toNat)
    case atStart=>exact ⟨0,J4 _,rfl,fun j h=>absurd h (J8 _),Z4 _ _⟩
    case round=>
     obtain ⟨t,ht,rfl,O,f⟩:=hrel;have Y:=U0 (C5.out.below f C5.out.lt);have D6:=U0 (X.out.below f X.out.lt);have U:=U0 (X5 H.out f);have E:=Y.out.cell 14;have d1:=D6.out.cell 1;simp only [@gz Value] at E d1;rw [HAq.out] at E;by_cases htk:t<k;rotate_left
     · obtain rfl:t=k:=O0;have HD1:=U0 (HD.out ⟨a5w.out,HLS.out,C,D,O.out⟩);clear f;go_wp2;go_roundw
       case rel=>exact ⟨t+1,O0,by go_num,HD1,Y,U.out⟩
       case measure=>simp [RowKit.intOf];omega
     have ht1:t<b.jb.length:=O0;have j1:=HJC.out t ht1 wr (X5 d.out f);have hbd:=U0 (f.drew);have HJD:Hid ((b.jb.getD t Jc).wk≠x.wk->∀ j,j<t+1->(b.jb.getD j Jc).wk≠x.wk):=fun N j hj=>by
      rcases Q7 j t with h | h
      · exact O.out j h
      · obtain rfl:j=t:=O0;exact N
     have HJN:Hid ((b.jb.getD t Jc).wk=x.wk->¬ mY b):=fun h=>p.out (fun g=>g.2.2.2.2 t htk h);generalize (b.jb.getD t Jc).wk=Z at*;clear O f;by_cases A:Z=x.wk
     · have c:=U0 (HJN.out A);rw [A] at j1
       go_wp2_with fail
       go_region
       all_goals go_wp2
       all_goals go_ret
       all_goals exact ⟨G5 c.out,U.out.drew⟩
     have HJ1:=U0 (HJD.out A);have z:=p_.2 A
     go_wp2_with fail
     go_region
     all_goals go_wp2
     all_goals go_roundw
     all_goals first
      | exact ⟨t+1,O0,by go_num,HJ1,hbd.out⟩
      | (simp [RowKit.intOf];omega)
  rw [C_ h0];refine Y0 14 ?_;refine Y0 15 ?_;refine Y0 16 ?_;refine Y0 17 ?_;refine Y0 18 ?_;have hk1:k - 1<b.jb.length:=O0;rw [show (k:Int) - 1=((k - 1:Nat):Int) by omega,T.Fa (k - 1) O0];refine Y0 19 ?_;refine Y0 20 ?_;refine Y0 21 ?_;refine Y0 22 ?_;refine Y0 23 ?_;refine Y0 24 ?_;by_cases hls:Op.bytesLess y.nm.toList x.nm.toList=true;rotate_left
  · have c:=U0 (p.out (fun h=>hls (h.2.1 h0)));rw [Fh.2 hls,oI];refine Y0 25 ?_;refine Y0 26 ?_;refine Y0 27 ?_;refine E5 28 ?_;refine E5 29 ?_;refine E5 30 ?_;refine E5 31 ?_;refine E5 32 ?_;refine E5 33 ?_;refine E5 34 ?_;refine Y0 35 ?_;refine Y0 36 ?_;refine E5 37 ?_;refine E5 38 ?_;refine E5 39 ?_;refine E5 40 ?_;refine E5 41 ?_;refine E5 42 ?_;refine E5 43 ?_;refine E5 44 ?_;refine E5 45 ?_;refine Y0 46 ?_;refine wdn ?_;go_wp2;go_ret;exact ⟨G5 c.out,H.out⟩
  have HLS:Hid (0<k->Op.bytesLess y.nm.toList x.nm.toList=true):=fun _=>hls;rw [hls,XI];refine Y0 25 ?_;refine Y0 26 ?_;refine Y0 27 ?_;refine Y0 28 ?_;refine Y0 29 ?_;refine Y0 30 ?_;refine Y0 31 ?_;refine Y0 32 ?_;refine rq 33 fun K a=>?_;go_simp;refine (xG x.wk 1 b.hd.length F).mono ?_;rintro e w7 ⟨rfl,L⟩;obtain rfl:=L.symm;by_cases C:1<=x.wk/\x.wk<=b.hd.length;rotate_left
  · have c:=U0 (p.out (fun h=>C h.2.2.1));rw [S9 C]
    go_wp2_with fail
    refine E8 a (n.out _ d.out) fun hH=>?_;clear a K;refine Y0 34 ?_;refine Y0 35 ?_;refine Y0 36 ?_;refine E5 37 ?_;refine E5 38 ?_;refine E5 39 ?_;refine E5 40 ?_;refine E5 41 ?_;refine E5 42 ?_;refine E5 43 ?_;refine E5 44 ?_;refine E5 45 ?_;refine Y0 46 ?_;refine wdn ?_;go_wp2;go_ret;exact ⟨G5 c.out,H.out⟩
  rw [C_ C]
  go_wp2_with fail
  refine E8 a (n.out _ d.out) fun hH=>?_;clear a K;refine Y0 34 ?_;refine Y0 35 ?_;refine Y0 36 ?_;refine Y0 37 ?_;refine Y0 38 ?_;refine Y0 39 ?_;refine Y0 40 ?_;refine Y0 41 ?_;refine Y0 42 ?_;refine Y0 43 ?_
  try rw [hw6]
  refine rq 44 fun K a=>?_;go_simp;refine (xG x.un b.now (b.now+6) F).mono ?_;rintro e w7 ⟨rfl,L⟩;obtain rfl:=L.symm;by_cases D:b.now<=x.un/\x.un<=b.now+6;rotate_left
  · have c:=U0 (p.out (fun h=>D h.2.2.2.1));rw [S9 D]
    go_wp2_with fail
    refine E8 a (n.out _ d.out) fun hH=>?_;clear a K;refine Y0 45 ?_;refine Y0 46 ?_;refine wdn ?_;go_wp2;go_ret;exact ⟨G5 c.out,H.out⟩
  rw [C_ D]
  go_wp2_with fail
  refine E8 a (n.out _ d.out) fun hH=>?_;clear a K;refine Y0 45 ?_;refine Y0 46 ?_;refine wdn ?_;have C5:=U0 (Q.out.below d.out Q.out.lt);have X:=U0 (P.out.below d.out P.out.lt)
  go_wp2_with fail
  go_loopw [6] (fun i wr=>∃ t:Nat,t<=k/\i=.int .i64 t/\Hid (∀ j,j<t->(b.jb.getD j Jc).wk≠x.wk)/\Below F.heap.size F wr) (fun i _=>k - (RowKit.intOf i).toNat)
  case atStart=>exact ⟨0,J4 _,rfl,fun j h=>absurd h (J8 _),Z4 _ _⟩
  case round=>
   obtain ⟨t,ht,rfl,O,f⟩:=hrel;have Y:=U0 (C5.out.below f C5.out.lt);have D6:=U0 (X.out.below f X.out.lt);have U:=U0 (X5 H.out f);have E:=Y.out.cell 14;have d1:=D6.out.cell 1;simp only [@gz Value] at E d1;rw [HAq.out] at E;by_cases htk:t<k;rotate_left
   · obtain rfl:t=k:=O0;have HD1:=U0 (HD.out ⟨a5w.out,HLS.out,C,D,O.out⟩);clear f;go_wp2;go_roundw
     case rel=>exact ⟨t+1,O0,by go_num,HD1,Y,U.out⟩
     case measure=>simp [RowKit.intOf];omega
   have ht1:t<b.jb.length:=O0;have j1:=HJC.out t ht1 wr (X5 d.out f);have hbd:=U0 (f.drew);have HJD:Hid ((b.jb.getD t Jc).wk≠x.wk->∀ j,j<t+1->(b.jb.getD j Jc).wk≠x.wk):=fun N j hj=>by
    rcases Q7 j t with h | h
    · exact O.out j h
    · obtain rfl:j=t:=O0;exact N
   have HJN:Hid ((b.jb.getD t Jc).wk=x.wk->¬ mY b):=fun h=>p.out (fun g=>g.2.2.2.2 t htk h);generalize (b.jb.getD t Jc).wk=Z at*;clear O f;by_cases A:Z=x.wk
   · have c:=U0 (HJN.out A);rw [A] at j1
     go_wp2_with fail
     go_region
     all_goals go_wp2
     all_goals go_ret
     all_goals exact ⟨G5 c.out,U.out.drew⟩
   have HJ1:=U0 (HJD.out A);have z:=p_.2 A
   go_wp2_with fail
   go_region
   all_goals go_wp2
   all_goals go_roundw
   all_goals first
    | exact ⟨t+1,O0,by go_num,HJ1,hbd.out⟩
    | (simp [RowKit.intOf];omega)
