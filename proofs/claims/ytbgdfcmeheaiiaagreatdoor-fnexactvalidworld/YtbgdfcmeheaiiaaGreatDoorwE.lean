import Derived.Test.YtbgdfcmeheaiiaaGreatDoorwG
set_option linter.unusedVariables false
set_option linter.unusedSimpArgs false
set_option maxHeartbeats 8000000
set_option maxRecDepth 100000
namespace Go.Proofs.YtbgdfcmeheaiiaaGreatDoor
open Proofs.Tryz Go.RowKit
theorem c46(b:Bs)(q:Ba)(ms:List M3)(w:World)(hl:Bo b 1048576)(hp:G.Bg b.fs ms)(hat:Dn w b q):
 Calls prog 46 #[.agg #[.int .i64 b.wd,.bool b.up,.int .i64 b.now,.int .i64 b.ep,.int .i64 b.ed,.slice q.sa b.sf.length q.sc,.slice q.la b.lo.length q.lc,.slice q.fa b.fs.length q.fc,.int .i64 b.s.wd,.slice q.ta b.s.ts.length q.tc,.slice q.ra b.s.rs.length q.rc,.slice q.ha b.hd.length q.hc,.slice q.oa b.rt.length q.oc,.slice q.na b.rn.length q.nc,.slice q.ja b.jb.length q.jc]] w λe w'=>Rb (QE ms b.rn) e/\Bw w w':=by
 have HA:=U0 hat;have HL0:=U0 hl;have hrl:=hl.nl;have HPT:=U0 hp;obtain⟨bb,off,hc⟩:=J8 hat.rn;have HC:=U0 hc;clear hat hl hc hp
 go_in
 go_upto_region 1 with fail
 have C0:=U0 (U3 w [vI b.wd,.bool b.up,vI b.now,vI b.ep,vI b.ed,vL q.sa b.sf.length q.sc,vL q.la b.lo.length q.lc,vL q.fa b.fs.length q.fc,vI b.s.wd,vL q.ta b.s.ts.length q.tc,vL q.ra b.s.rs.length q.rc,vL q.ha b.hd.length q.hc,vL q.oa b.rt.length q.oc,vL q.na b.rn.length q.nc,vL q.ja b.jb.length q.jc] 53);have B0:=U0 (P6 (w:=w) (o:=.cells #[vI b.wd,.bool b.up,vI b.now,vI b.ep,vI b.ed,vL q.sa b.sf.length q.sc,vL q.la b.lo.length q.lc,vL q.fa b.fs.length q.fc,vI b.s.wd,vL q.ta b.s.ts.length q.tc,vL q.ra b.s.rs.length q.rc,vL q.ha b.hd.length q.hc,vL q.oa b.rt.length q.oc,vL q.na b.rn.length q.nc,vL q.ja b.jb.length q.jc] 53));generalize w.alloc (.cells #[vI b.wd,.bool b.up,vI b.now,vI b.ep,vI b.ed,vL q.sa b.sf.length q.sc,vL q.la b.lo.length q.lc,vL q.fa b.fs.length q.fc,vI b.s.wd,vL q.ta b.s.ts.length q.tc,vL q.ra b.s.rs.length q.rc,vL q.ha b.hd.length q.hc,vL q.oa b.rt.length q.oc,vL q.na b.rn.length q.nc,vL q.ja b.jb.length q.jc] 53)=V0 at*;go_wp2;go_loopw[3] (λi wr=>∃k:Nat,k<=b.rn.length/\i=.int .i64 k/\Hid (∀i,i<k->(∃j,j<ms.length/\(ms.getD j C_).nm=(b.rn.getD i Aa).nm)/\Pg (b.rn.getD i Aa)/\(0<i->Op.bytesLess (b.rn.getD (i-1) Aa).nm.toList (b.rn.getD i Aa).nm.toList=true))/\Hid (Cl wr w.heap.size 53 [.int .i64 b.wd,.bool b.up,.int .i64 b.now,.int .i64 b.ep,.int .i64 b.ed,.slice q.sa b.sf.length q.sc,.slice q.la b.lo.length q.lc,.slice q.fa b.fs.length q.fc,.int .i64 b.s.wd,.slice q.ta b.s.ts.length q.tc,.slice q.ra b.s.rs.length q.rc,.slice q.ha b.hd.length q.hc,.slice q.oa b.rt.length q.oc,.slice q.na b.rn.length q.nc,.slice q.ja b.jb.length q.jc])/\Below w.heap.size w wr) (λi _=>b.rn.length-(RowKit.intOf i).toNat);exact⟨0,I4 _,rfl,λj h=>absurd h (U7 _),C0,B0.out⟩;obtain⟨k,hk,rfl,hd,J,hb⟩:=hrel;have I:=U0 hb;clear hb;have Q:=J.out.cell 7;have a13:=J.out.cell 13;simp only[gz]at Q a13;by_cases hlt:k<b.rn.length;rotate_left
 ·obtain rfl:k=b.rn.length:=O0;have HY:Hid (QE ms b.rn):=hd.out;go_wp2;go_ret;exact⟨F_ HY.out,I.out⟩
 obtain⟨ha,hbw,hcell⟩:=Zb HC.out hlt;have a5p:=G9 hbw I.out.size;obtain⟨P,O,gB,gL⟩:=(hcell k hlt).below hbw I.out;have HP:Hid (wr.cell? (aA bb (off+(k-1)*6))=some (vS (b.rn.getD (k-1) Aa).nm)):=by
  obtain⟨_,_,g,_⟩:=(hcell (k-1) O0).below hbw I.out;exact g 0 _ rfl
 have N:=U0 (HL0.out.ns k);have l:Hid (¬((∃j,j<ms.length/\(ms.getD j C_).nm=(b.rn.getD k Aa).nm)/\Pg (b.rn.getD k Aa)/\(0<k->Op.bytesLess (b.rn.getD (k-1) Aa).nm.toList (b.rn.getD k Aa).nm.toList=true))->¬QE ms b.rn):=λhg h=>hg (h k hlt);have HD:Hid (((∃j,j<ms.length/\(ms.getD j C_).nm=(b.rn.getD k Aa).nm)/\Pg (b.rn.getD k Aa)/\(0<k->Op.bytesLess (b.rn.getD (k-1) Aa).nm.toList (b.rn.getD k Aa).nm.toList=true))->∀i,i<k+1->(∃j,j<ms.length/\(ms.getD j C_).nm=(b.rn.getD i Aa).nm)/\Pg (b.rn.getD i Aa)/\(0<i->Op.bytesLess (b.rn.getD (i-1) Aa).nm.toList (b.rn.getD i Aa).nm.toList=true)):=λhg j hj=>by
  rcases P7 j k with h|h
  ·exact hd.out j h
  obtain rfl:j=k:=O0;exact hg
 generalize b.rn.getD k Aa=x at*;generalize b.rn.getD (k-1) Aa=y at*;have GB:=U0 gB;have GL:=U0 gL;rw[ha]at a13;have HAq:=U0 ha;clear hcell hd gB gL ha
 go_upto_region 5 with(first|(refine b_ rfl (I7 178 _ rfl (B:=bb) (j:=off+k*6) (cs:=YC (x,vL P x.ls.length O)) rfl GB.out underlying178 rfl Y0) ?_)|(refine N8 rfl 178 _ _ rfl (j:=0) rfl rfl (U3 wr [vE,vO,vE,vN,vO,vE] 178) Y8 (vT x P O) Y0 ?_;intro z cz oz))
 have CZ:Hid (Cl z wr.heap.size 178 [vS x.nm,vI x.md,vS x.wt,vL P x.ls.length O,vI x.cd,vS x.tx]):=cz;have BZ:=U0 ((P6 (w:=wr) (o:=.cells #[vE,vO,vE,vN,vO,vE] 178)).trans (oz.below Y8));clear cz oz;have Crz:=U0 (J.out.below BZ.out J.out.lt);clear Q a13;have Q:=Crz.out.cell 7;simp only[gz]at Q;have r0:=CZ.out.cell 0;simp only[gz]at r0
 go_wp2_with fail
 refine(G.c92 q.fa q.fc b.fs x.nm z HL0.out.fl HL0.out.fz (T.X4 HA.out.fs (P5 I.out BZ.out))).mono ?_;rintro e w1⟨⟨ms',hp',m,th,rfl,D⟩,hb1⟩;obtain rfl:=G.TA hp' HPT.out;clear r0 Q hp'
 go_upto_region 6 with fail
 have BM:=U0 (P5 hb1 (P6 (w:=w1) (o:=.cells #[vS m.nm,vS m.tl,vS m.ar] 68)));generalize w1.alloc (.cells #[vS m.nm,vS m.tl,vS m.ar] 68)=V at*;have CV:=U0 (CZ.out.below BM.out CZ.out.lt);have BV:=U0 (P5 BZ.out BM.out);have r:=U0 (J.out.below BV.out J.out.lt);have F:Bw V V.drew:=(J4 _ _).drew;have CD:=U0 (CV.out.below F CV.out.lt);have HQ:=U0 (P5 I.out BV.out);clear hb1 CZ BZ BM Crz;have S:Hid (∀u,Bw V u->u.cell? (aW w 13)=some (vL (some (aA bb off)) b.rn.length q.nc)/\u.cell? (aA bb (off+(k-1)*6))=some (vS y.nm)/\u.cell? (aW wr 0)=some (vS x.nm)/\u.cell? (aW wr 1)=some (vI x.md)/\u.cell? (aW wr 2)=some (vS x.wt)/\u.cell? (aW wr 3)=some (vL P x.ls.length O)):=λu hu=>by
  have h1:=r.out.below hu r.out.lt;have h2:=CV.out.below hu CV.out.lt;refine⟨(h1.cell 13).trans (by rw[HAq.out];rfl),((P5 BV.out hu).cell (by exact a5p)).trans HP.out,h2.cell 0,h2.cell 1,h2.cell 2,h2.cell 3⟩
 refine FO S F Y0 λhH=>?_
 cases th with
 | false=>
  have a:=U0 (l.out (λh=>by
   rcases D with⟨h,_⟩|⟨_,D⟩
   ·cases h
   obtain⟨j,hj,e⟩:=h.1;exact D j hj e))
  clear D
  iterate 41 refine sq ?_
  refine wdn ?_;go_wp2;go_ret;exact⟨I5 a.out,HQ.out.drew⟩
 | true=>
 have HM:Hid (∃j,j<ms'.length/\(ms'.getD j C_).nm=x.nm):=by
  rcases D with⟨_,i,hi,e1,e2⟩|⟨h,_⟩
  ·exact⟨i,hi,by rw[e1];exact e2⟩
  cases h
 clear D
 iterate 5 refine sq ?_
 by_cases h0:0<k;rotate_left
 focus
  have HLS:Hid (0<k->Op.bytesLess y.nm.toList x.nm.toList=true):=λh=>absurd h h0;rw[y9 h0]
  iterate 16 refine sq ?_
 rotate_left
 focus
  rw[m_ h0]
  iterate 5 refine sq ?_
  have hk1:k-1<b.rn.length:=O0;rw[show(k:Int)-1=((k-1:Nat):Int) by omega,T.Na (k-1) O0]
  iterate 6 refine sq ?_
  by_cases Y:Op.bytesLess y.nm.toList x.nm.toList=true;rotate_left
  ·have a:=U0 (l.out (λh=>Y (h.2.2 h0)));rw[Pj.2 Y,OI]
   iterate 25 refine sq ?_
   refine wdn ?_;go_wp2;go_ret;exact⟨I5 a.out,HQ.out.drew⟩
  have HLS:Hid (0<k->Op.bytesLess y.nm.toList x.nm.toList=true):=λ_=>Y;rw[Y,pJ]
  iterate 5 refine sq ?_
 all_goals
  refine rq 21 λK f=>?_;go_simp;refine(c15 x.md 0 2 V.drew).mono ?_;rintro e w7⟨rfl,hw7⟩;obtain rfl:=hw7.symm;by_cases hmd:0<=x.md/\x.md<=2;rotate_left
  ·have a:=U0 (l.out (λh=>hmd (by rcases h.2.1.2 with⟨h,_⟩|⟨h,_⟩<;>omega)));rw[y9 hmd]
   go_wp2_with fail
   refine X8 f (S.out _ F) λhH=>?_;clear f K
   iterate 19 refine sq ?_
   refine wdn ?_;go_wp2;go_ret;exact⟨I5 a.out,HQ.out.drew⟩
  rw[m_ hmd]
  go_wp2_with fail
  refine X8 f (S.out _ F) λhH=>?_;clear f K
  iterate 5 refine sq ?_
  refine rq 27 λK f=>?_;go_simp;refine(c93 P O x.ls V.drew N.out.2.2.1.1 N.out.2.2.1.2 (Z4 GL.out (P5 BV.out F))).mono ?_;rintro e w8⟨⟨bo,rfl,hbo⟩,hb8⟩;have L:=U0 (F.trans (hb8.mono Y8));have A:=U0 (P5 HQ.out L.out);have c:=U0 (CD.out.below hb8 CD.out.lt);clear hb8
  go_wp2_with fail
  refine X8 f (S.out _ L.out) λhH=>?_;clear f K
  cases bo with
  | false=>
   have a:=U0 (l.out (λh=>by have:=hbo.2 h.2.1.1;cases this));clear hbo
   iterate 13 refine sq ?_
   refine wdn ?_;go_wp2;go_ret;exact⟨I5 a.out,A.out⟩
  | true=>
  have HL:=U0 (hbo.1 rfl);clear hbo
  iterate 5 refine sq ?_
  by_cases E:x.wt=⟨#[]⟩
  focus
   have HWT:Hid (yQ x.wt):=.inl E;have z:(x.wt.toList==([]:List UInt8))=true:=by rw[E,ByteArray.toList_eq];rfl
   iterate 8 refine sq ?_
   refine wdn ?_;have v:=c.out.cell 1;have d:=c.out.cell 2;have t:=c.out.cell 4;have C:=c.out.cell 5;simp only[gz]at v d t C;by_cases h2:x.md=2
   ·rw[h2]at v;have R:=U0 (c94 x.cd x.tx w8 (by have:=N.out.2.2.2;omega))
    go_wp2_with fail
    refine R.out.mono ?_;rintro e w9⟨rfl,n⟩;have C9:=U0 (c.out.below n c.out.lt);have H:=U0 (P5 A.out n);have K9:=U0 (r.out.below (P5 L.out n) r.out.lt);clear n R v d t C;have d:=C9.out.cell 2;simp only[gz]at d;by_cases hv:vr x.cd x.tx.data.toList=true
    ·rw[hv];by_cases p:x.wt=⟨#[]⟩
     ·have U:=U0 (HD.out ⟨HM.out,⟨HL.out,.inr ⟨h2,hv,p⟩⟩,HLS.out⟩);rw[p]at d;go_wp2;go_roundw;exact⟨k+1,O0,by go_num,U,K9,H.out⟩;exact P9
     exact absurd E p
    rw[Pj.2 hv];have a:=U0 (l.out (λh=>by
     rcases h.2.1.2 with⟨h,_⟩|⟨_,h,_⟩
     ·omega
     exact hv h))
    go_wp2;go_ret;exact⟨I5 a.out,H.out⟩
  rotate_left
  focus
   have z:=Vj E
   iterate 4 refine sq ?_
   refine rq 37 λK f=>?_;go_simp;refine(EM x.wt w8 (by have:=N.out.2.1;omega)).mono ?_;rintro e w7⟨rfl,hw7⟩;obtain rfl:=hw7.symm
   go_wp2_with fail
   refine X8 f (S.out _ L.out) λhH=>?_;clear f K;by_cases X:Y5 x.wt.data.toList=true;rotate_left
   ·have a:=U0 (l.out (λh=>by
     rcases h.2.1.2 with⟨_,_,h⟩|⟨_,_,h⟩
     ·exact X (h.resolve_left E)
     exact E h))
    rw[Pj.2 X]
    iterate 3 refine sq ?_
    refine wdn ?_;go_wp2;go_ret;exact⟨I5 a.out,A.out⟩
   have HWT:Hid (yQ x.wt):=.inr X;rw[X]
   iterate 3 refine sq ?_
   refine wdn ?_;have v:=c.out.cell 1;have d:=c.out.cell 2;have t:=c.out.cell 4;have C:=c.out.cell 5;simp only[gz]at v d t C;by_cases h2:x.md=2
   ·rw[h2]at v;have R:=U0 (c94 x.cd x.tx w8 (by have:=N.out.2.2.2;omega))
    go_wp2_with fail
    refine R.out.mono ?_;rintro e w9⟨rfl,n⟩;have C9:=U0 (c.out.below n c.out.lt);have H:=U0 (P5 A.out n);have K9:=U0 (r.out.below (P5 L.out n) r.out.lt);clear n R v d t C;have d:=C9.out.cell 2;simp only[gz]at d;by_cases hv:vr x.cd x.tx.data.toList=true
    ·rw[hv];by_cases p:x.wt=⟨#[]⟩
     ·have U:=U0 (HD.out ⟨HM.out,⟨HL.out,.inr ⟨h2,hv,p⟩⟩,HLS.out⟩);rw[p]at d;go_wp2;go_roundw;exact⟨k+1,O0,by go_num,U,K9,H.out⟩;exact P9
     have z:=Vj p;have a:=U0 (l.out (λh=>by
      rcases h.2.1.2 with⟨h,_⟩|⟨_,_,h⟩
      ·omega
      exact p h))
     go_wp2;go_ret;exact⟨I5 a.out,H.out⟩
    rw[Pj.2 hv];have a:=U0 (l.out (λh=>by
     rcases h.2.1.2 with⟨h,_⟩|⟨_,h,_⟩
     ·omega
     exact hv h))
    go_wp2;go_ret;exact⟨I5 a.out,H.out⟩
  all_goals
   by_cases Z:x.cd=0;rotate_left
   ·have a:=U0 (l.out (λh=>by
     rcases h.2.1.2 with⟨_,h,_⟩|⟨h,_⟩
     ·exact Z h.1
     exact h2 h))
    go_wp2;go_ret;exact⟨I5 a.out,A.out⟩
   by_cases W:x.tx=⟨#[]⟩;rotate_left
   ·have a:=U0 (l.out (λh=>by
     rcases h.2.1.2 with⟨_,h,_⟩|⟨h,_⟩
     ·exact W h.2
     exact h2 h))
    have z:=Vj W;have z1:=K_.1 z;rw[Z]at t;go_wp2;go_ret;exact⟨I5 a.out,A.out⟩
   have U:=U0 (HD.out ⟨HM.out,⟨HL.out,.inl ⟨O0,⟨Z,W⟩,HWT.out⟩⟩,HLS.out⟩);rw[Z]at t;rw[W]at C;go_wp2;go_roundw;exact⟨k+1,O0,by go_num,U,r.out.below L.out r.out.lt,A.out⟩;exact P9
def JbP(b:Bs)(i:Nat):Prop:=(∃t:Nat,t<b.rn.length/\(b.rn.getD t Aa).nm=(b.jb.getD i Zd).nm/\(∀j,j<t->(b.rn.getD j Aa).nm≠(b.jb.getD i Zd).nm)/\(b.rn.getD t Aa).md=1/\(b.rn.getD t Aa).wt=⟨#[]⟩)/\(0<i->Op.bytesLess (b.jb.getD (i-1) Zd).nm.toList (b.jb.getD i Zd).nm.toList=true)/\(1<=(b.jb.getD i Zd).wk/\(b.jb.getD i Zd).wk<=b.hd.length)/\(b.now<=(b.jb.getD i Zd).un/\(b.jb.getD i Zd).un<=b.now+6)/\∀j,j<i->(b.jb.getD j Zd).wk≠(b.jb.getD i Zd).wk
def JbS(b:Bs):Prop:=∀i,i<b.jb.length->JbP b i
theorem c47(b:Bs)(q:Ba)(w:World)(hl:Bo b 1048576)(hnw:0<=b.now/\b.now<=1000000)(hat:Dn w b q):
 Calls prog 47 #[.agg #[.int .i64 b.wd,.bool b.up,.int .i64 b.now,.int .i64 b.ep,.int .i64 b.ed,.slice q.sa b.sf.length q.sc,.slice q.la b.lo.length q.lc,.slice q.fa b.fs.length q.fc,.int .i64 b.s.wd,.slice q.ta b.s.ts.length q.tc,.slice q.ra b.s.rs.length q.rc,.slice q.ha b.hd.length q.hc,.slice q.oa b.rt.length q.oc,.slice q.na b.rn.length q.nc,.slice q.ja b.jb.length q.jc]] w λe w'=>Rb (JbS b) e/\Bw w w':=by
 obtain⟨hn1,hn2⟩:=hnw;have hw6:IntKind.i64.wrap (b.now+6)=b.now+6:=by rw[oJ];omega
 have HA:=U0 hat;have HL0:=U0 hl;have hjl:=hl.jl;have hrl:=hl.nl;have hhl:=hl.hl;obtain⟨D,C,hc⟩:=J8 hat.jb;have HC:=U0 hc;clear hat hl hc
 go_in
 go_upto_region 1 with fail
 have C0:=U0 (U3 w [vI b.wd,.bool b.up,vI b.now,vI b.ep,vI b.ed,vL q.sa b.sf.length q.sc,vL q.la b.lo.length q.lc,vL q.fa b.fs.length q.fc,vI b.s.wd,vL q.ta b.s.ts.length q.tc,vL q.ra b.s.rs.length q.rc,vL q.ha b.hd.length q.hc,vL q.oa b.rt.length q.oc,vL q.na b.rn.length q.nc,vL q.ja b.jb.length q.jc] 53);have B0:=U0 (P6 (w:=w) (o:=.cells #[vI b.wd,.bool b.up,vI b.now,vI b.ep,vI b.ed,vL q.sa b.sf.length q.sc,vL q.la b.lo.length q.lc,vL q.fa b.fs.length q.fc,vI b.s.wd,vL q.ta b.s.ts.length q.tc,vL q.ra b.s.rs.length q.rc,vL q.ha b.hd.length q.hc,vL q.oa b.rt.length q.oc,vL q.na b.rn.length q.nc,vL q.ja b.jb.length q.jc] 53));generalize w.alloc (.cells #[vI b.wd,.bool b.up,vI b.now,vI b.ep,vI b.ed,vL q.sa b.sf.length q.sc,vL q.la b.lo.length q.lc,vL q.fa b.fs.length q.fc,vI b.s.wd,vL q.ta b.s.ts.length q.tc,vL q.ra b.s.rs.length q.rc,vL q.ha b.hd.length q.hc,vL q.oa b.rt.length q.oc,vL q.na b.rn.length q.nc,vL q.ja b.jb.length q.jc] 53)=V0 at*;go_wp2;go_loopw[3] (λi wr=>∃k:Nat,k<=b.jb.length/\i=.int .i64 k/\Hid (∀i,i<k->JbP b i)/\Hid (Cl wr w.heap.size 53 [.int .i64 b.wd,.bool b.up,.int .i64 b.now,.int .i64 b.ep,.int .i64 b.ed,.slice q.sa b.sf.length q.sc,.slice q.la b.lo.length q.lc,.slice q.fa b.fs.length q.fc,.int .i64 b.s.wd,.slice q.ta b.s.ts.length q.tc,.slice q.ra b.s.rs.length q.rc,.slice q.ha b.hd.length q.hc,.slice q.oa b.rt.length q.oc,.slice q.na b.rn.length q.nc,.slice q.ja b.jb.length q.jc])/\Below w.heap.size w wr) (λi _=>b.jb.length-(RowKit.intOf i).toNat);exact⟨0,I4 _,rfl,λj h=>absurd h (U7 _),C0,B0.out⟩;generalize wr=d at*;obtain⟨k,hk,rfl,hd,Cr,hb⟩:=hrel;have H:=U0 hb;clear hb;have p:=Cr.out.cell 14;simp only[gz]at p;by_cases hlt:k<b.jb.length;rotate_left
 ·obtain rfl:k=b.jb.length:=O0;have HY:Hid (JbS b):=hd.out;go_wp2;go_ret;exact⟨F_ HY.out,H.out⟩
 obtain⟨ha,hbw,hcell⟩:=Zb HC.out hlt;have a5p:=G9 hbw H.out.size;have HJ0:Hid (∀t,t<b.jb.length->∀u,Bw d u->Bc u D (C+t*3) (IU (b.jb.getD t Zd))):=λt ht u a=>((hcell t ht).below hbw H.out).below a5p a;have n:Hid (¬JbP b k->¬JbS b):=λE h=>E (h k hlt);have HD:Hid (JbP b k->∀i,i<k+1->JbP b i):=λE j hj=>by
  rcases P7 j k with h|h
  ·exact hd.out j h
  obtain rfl:j=k:=O0;exact E
 unfold JbP at n HD;have HX:=U0 (HJ0.out k hlt);have HYP:Hid (∀u,Bw d u->u.cell? (aA D (C+(k-1)*3))=some (vS (b.jb.getD (k-1) Zd).nm)):=λu a=>HJ0.out (k-1) O0 u a 0 _ rfl;generalize b.jb.getD k Zd=x at*;generalize b.jb.getD (k-1) Zd=y at*;rw[ha]at p;have HAq:=U0 ha;have g0:=HX.out d (J4 _ _) 0 _ rfl;have g1:=HX.out d (J4 _ _) 1 _ rfl;have g2:=HX.out d (J4 _ _) 2 _ rfl;dsimp only[Nat.add_zero]at g0;clear hcell hd ha
 go_upto_region 5 with fail
 have X:=U0 (U3 d [vS x.nm,vI x.wk,vI x.un] 183);have BV1:=U0 (P6 (w:=d) (o:=.cells #[vS x.nm,vI x.wk,vI x.un] 183));generalize d.alloc (.cells #[vS x.nm,vI x.wk,vI x.un] 183)=V1 at*;have W:=U0 (Cr.out.below BV1.out Cr.out.lt);clear g0 g1 g2 p;have r0:=X.out.cell 0;simp only[gz]at r0
 go_wp2_with(refine b_ rfl (I7 53 _ rfl (B:=w.heap.size) (j:=0) (cs:=[vI b.wd,.bool b.up,vI b.now,vI b.ep,vI b.ed,vL q.sa b.sf.length q.sc,vL q.la b.lo.length q.lc,vL q.fa b.fs.length q.fc,vI b.s.wd,vL q.ta b.s.ts.length q.tc,vL q.ra b.s.rs.length q.rc,vL q.ha b.hd.length q.hc,vL q.oa b.rt.length q.oc,vL q.na b.rn.length q.nc,vL q.ja b.jb.length q.jc]) rfl (λq v e=>by rw[l7];exact(W.out.cell q).trans e) underlying53 rfl Y0) ?_)
 refine(c95 b q x.nm V1 hrl (Ve HA.out.rn (P5 H.out BV1.out))).mono ?_;rintro e V⟨⟨r,rfl,hr⟩,R⟩;have BV:=U0 (P5 BV1.out R);have CB:=U0 (W.out.below R W.out.lt);have Y:=U0 (X.out.below R X.out.lt);have U:=U0 (P5 H.out BV.out);have hvd:Bw V V.drew:=(J4 _ _).drew;clear R r0 W X BV1
 go_upto_region 6 with fail
 rcases hr with⟨rfl,hno⟩|⟨i,rfl,P,hnm,a5T⟩
 ·have f:=U0 (n.out (λh=>by
   obtain⟨t,ht,e,_⟩:=h.1;exact hno t ht e))
  refine wp_region_held_drew (S:=λ_=>True) Y0 trivial λhH=>?_
  iterate 47 refine sq ?_
  refine wdn ?_;go_wp2;go_ret;exact⟨I5 f.out,U.out.drew⟩
 rcases J8 HA.out.rn with⟨bb,off,hss|⟨han,hbn,hcn⟩⟩
 ·rw[hss]at P;exact absurd P (U7 _)
 obtain⟨ai,ci,gB,gL⟩:=(hcn i P).below hbn U.out;have a7d:=G9 hbn U.out.size;have HF:Hid ((b.rn.getD i Aa).md=1/\(b.rn.getD i Aa).wt=⟨#[]⟩->∃t:Nat,t<b.rn.length/\(b.rn.getD t Aa).nm=x.nm/\(∀j,j<t->(b.rn.getD j Aa).nm≠x.nm)/\(b.rn.getD t Aa).md=1/\(b.rn.getD t Aa).wt=⟨#[]⟩):=λh=>⟨i,P,hnm,a5T,h⟩;have HF2:Hid ((∃t:Nat,t<b.rn.length/\(b.rn.getD t Aa).nm=x.nm/\(∀j,j<t->(b.rn.getD j Aa).nm≠x.nm)/\(b.rn.getD t Aa).md=1/\(b.rn.getD t Aa).wt=⟨#[]⟩)->(b.rn.getD i Aa).md=1/\(b.rn.getD i Aa).wt=⟨#[]⟩):=λ⟨t,ht,e1,e2,e3⟩=>by
  rcases Yw t i with h|h|h
  ·exact absurd e1 (a5T t h)
  ·rw[<- h];exact e3
  exact absurd hnm (e2 i h)
 have GB:=U0 gB;have HAn:=U0 han;generalize b.rn.getD i Aa=z at*;clear hcn han gB gL hnm a5T;have A:Hid (∀u,Bw V u->u.cell? (aW w 2)=some (vI b.now)/\u.cell? (aW w 11)=some (vL q.ha b.hd.length q.hc)/\u.cell? (aW w 13)=some (vL (some (aA bb off)) b.rn.length q.nc)/\u.cell? (aW w 14)=some (vL (some (aA D C)) b.jb.length q.jc)/\u.cell? (aA D (C+(k-1)*3))=some (vS y.nm)/\u.cell? (aW d 0)=some (vS x.nm)/\u.cell? (aW d 1)=some (vI x.wk)/\u.cell? (aW d 2)=some (vI x.un)/\Bc u bb (off+i*6) (YC (z,vL ai z.ls.length ci))):=λu a=>by
  have h1:=CB.out.below a CB.out.lt;have h2:=Y.out.below a Y.out.lt;have h3:=P5 BV.out a;exact⟨h1.cell 2,h1.cell 11,(h1.cell 13).trans (by rw[HAn.out];rfl),(h1.cell 14).trans (by rw[HAq.out];rfl),HYP.out u h3,h2.cell 0,h2.cell 1,h2.cell 2,GB.out.below a7d a⟩
 have HJC:Hid (∀t,t<b.jb.length->∀u,Bw V u->u.cell? (aA D (C+t*3+1))=some (vI (b.jb.getD t Zd).wk)):=λt ht u a=>HJ0.out t ht u (P5 BV.out a) 1 _ rfl;refine FO A hvd Y0 λhH=>?_;have hi0:¬(i:Int)<0:=O0
 iterate 7 refine sq ?_
 refine tq 7 hH ?_ (hv:=λu a=>I7 178 _ rfl (B:=bb) (j:=off+i*6) (cs:=YC (z,vL ai z.ls.length ci)) rfl a.2.2.2.2.2.2.2.2 underlying178 rfl Y0)
 try simp only[qq]
 refine rq 8 λK c=>?_;go_simp;refine(c96 z ai ci V.drew).mono ?_;rintro e I⟨⟨bo,rfl,Q⟩,hb8⟩;have l:=U0 (hvd.trans (hb8.mono Y8));have F:=U0 (P5 U.out l.out);clear hb8
 go_wp2_with fail
 refine X8 c (A.out _ l.out) λhH=>?_;clear c K
 cases bo with
 | false=>
  have f:=U0 (n.out (λh=>by have:=Q.2 (HF2.out h.1);cases this));clear Q
  iterate 38 refine sq ?_
  refine wdn ?_;go_wp2;go_ret;exact⟨I5 f.out,F.out⟩
 | true=>
 have a7e:=U0 (HF.out (Q.1 rfl));clear Q
 iterate 5 refine sq ?_
 by_cases h0:0<k;rotate_left
 focus
  have HLS:Hid (0<k->Op.bytesLess y.nm.toList x.nm.toList=true):=λh=>absurd h h0;rw[y9 h0]
  iterate 19 refine sq ?_
 rotate_left
 focus
  rw[m_ h0]
  iterate 5 refine sq ?_
  have hk1:k-1<b.jb.length:=O0;rw[show(k:Int)-1=((k-1:Nat):Int) by omega,T.Na (k-1) O0]
  iterate 6 refine sq ?_
  by_cases O:Op.bytesLess y.nm.toList x.nm.toList=true;rotate_left
  ·have f:=U0 (n.out (λh=>O (h.2.1 h0)));rw[Pj.2 O,OI]
   iterate 22 refine sq ?_
   refine wdn ?_;go_wp2;go_ret;exact⟨I5 f.out,F.out⟩
  have HLS:Hid (0<k->Op.bytesLess y.nm.toList x.nm.toList=true):=λ_=>O;rw[O,pJ]
  iterate 8 refine sq ?_
 all_goals
  refine rq 33 λK c=>?_;go_simp;refine(c15 x.wk 1 b.hd.length I).mono ?_;rintro e w7⟨rfl,hw7⟩;obtain rfl:=hw7.symm;by_cases L:1<=x.wk/\x.wk<=b.hd.length;rotate_left
  ·have f:=U0 (n.out (λh=>L h.2.2.1));rw[y9 L]
   go_wp2_with fail
   refine X8 c (A.out _ l.out) λhH=>?_;clear c K
   iterate 13 refine sq ?_
   refine wdn ?_;go_wp2;go_ret;exact⟨I5 f.out,F.out⟩
  rw[m_ L]
  go_wp2_with fail
  refine X8 c (A.out _ l.out) λhH=>?_;clear c K
  iterate 10 refine sq ?_
  try rw[hw6]
  refine rq 44 λK c=>?_;go_simp;refine(c15 x.un b.now (b.now+6) I).mono ?_;rintro e w7⟨rfl,hw7⟩;obtain rfl:=hw7.symm;by_cases N:b.now<=x.un/\x.un<=b.now+6;rotate_left
  ·have f:=U0 (n.out (λh=>N h.2.2.2.1));rw[y9 N]
   go_wp2_with fail
   refine X8 c (A.out _ l.out) λhH=>?_;clear c K
   iterate 2 refine sq ?_
   refine wdn ?_;go_wp2;go_ret;exact⟨I5 f.out,F.out⟩
  rw[m_ N]
  go_wp2_with fail
  refine X8 c (A.out _ l.out) λhH=>?_;clear c K
  iterate 2 refine sq ?_
  refine wdn ?_;have C5:=U0 (CB.out.below l.out CB.out.lt);have D5:=U0 (Y.out.below l.out Y.out.lt);go_wp2;go_loopw[6] (λi wr=>∃t:Nat,t<=k/\i=.int .i64 t/\Hid (∀j,j<t->(b.jb.getD j Zd).wk≠x.wk)/\Below I.heap.size I wr) (λi _=>k-(RowKit.intOf i).toNat);exact⟨0,I4 _,rfl,λj h=>absurd h (U7 _),J4 _ _⟩;obtain⟨t,ht,rfl,hdj,m⟩:=hrel;have C6:=U0 (C5.out.below m C5.out.lt);have D6:=U0 (D5.out.below m D5.out.lt);have Q6:=U0 (P5 F.out m);have p:=C6.out.cell 14;have d1:=D6.out.cell 1;simp only[gz]at p d1;rw[HAq.out]at p;by_cases htk:t<k;rotate_left
  ·obtain rfl:t=k:=O0;have HD1:=U0 (HD.out ⟨a7e.out,HLS.out,L,N,hdj.out⟩);clear m;go_wp2;go_roundw;exact⟨t+1,O0,by go_num,HD1,C6,Q6.out⟩;exact P9
  have ht1:t<b.jb.length:=O0;have j1:=HJC.out t ht1 wr (P5 l.out m);have hbd:=U0 (m.drew);have HJD:Hid ((b.jb.getD t Zd).wk≠x.wk->∀j,j<t+1->(b.jb.getD j Zd).wk≠x.wk):=λE j hj=>by
   rcases P7 j t with h|h
   ·exact hdj.out j h
   obtain rfl:j=t:=O0;exact E
  have HJN:Hid ((b.jb.getD t Zd).wk=x.wk->¬JbS b):=λh=>n.out (λg=>g.2.2.2.2 t htk h);generalize (b.jb.getD t Zd).wk=Z at*;clear hdj m;by_cases J:Z=x.wk
  ·have f:=U0 (HJN.out J);rw[J]at j1
   go_wp2_with fail
   go_region
   all_goals go_wp2
   all_goals go_ret
   all_goals exact⟨I5 f.out,Q6.out.drew⟩
  have HJ1:=U0 (HJD.out J);have z:=K_.2 J
  go_wp2_with fail
  go_region
  all_goals go_wp2
  all_goals go_roundw
  all_goals first
   | exact⟨t+1,O0,by go_num,HJ1,hbd.out⟩
   | (exact P9)
