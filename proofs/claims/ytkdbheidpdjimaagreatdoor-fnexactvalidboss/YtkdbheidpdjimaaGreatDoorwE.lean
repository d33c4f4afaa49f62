import Derived.Test.YtkdbheidpdjimaaGreatDoorvX
import Derived.Test.YtkdbheidpdjimaaGreatDoorwB
set_option linter.unusedVariables false
set_option maxHeartbeats 8000000
set_option maxRecDepth 100000
namespace Go.Proofs.YtkdbheidpdjimaaGreatDoor
open Proofs.Tryz Go.RowKit
def RY (b:Bs) (i:Nat):Prop:=(∃ t:Nat,t<b.rn.length/\(b.rn.getD t Aa).nm=(b.jb.getD i Oc).nm/\(∀ j,j<t->(b.rn.getD j Aa).nm≠(b.jb.getD i Oc).nm)/\(b.rn.getD t Aa).md=1/\(b.rn.getD t Aa).wt=⟨#[]⟩)/\(0<i->Op.bytesLess (b.jb.getD (i - 1) Oc).nm.toList (b.jb.getD i Oc).nm.toList=true)/\(1<=(b.jb.getD i Oc).wk/\(b.jb.getD i Oc).wk<=b.hd.length)/\(b.now<=(b.jb.getD i Oc).un/\(b.jb.getD i Oc).un<=b.now+6)/\∀ j,j<i->(b.jb.getD j Oc).wk≠(b.jb.getD i Oc).wk
def nX (b:Bs):Prop:=∀ i,i<b.jb.length->RY b i
theorem c26 (b:Bs) (q:Ba) (w:World) (hl:Bo b 1048576) (hnw:0<=b.now/\b.now<=1000000) (hat:Dn w b q):
 Calls prog 26 #[.agg #[.int .i64 b.wd,.bool b.up,.int .i64 b.now,.int .i64 b.ep,.int .i64 b.ed,.slice q.sa b.sf.length q.sc,.slice q.la b.lo.length q.lc,.slice q.fa b.fs.length q.fc,.int .i64 b.s.wd,.slice q.ta b.s.ts.length q.tc,.slice q.ra b.s.rs.length q.rc,.slice q.ha b.hd.length q.hc,.slice q.oa b.rt.length q.oc,.slice q.na b.rn.length q.nc,.slice q.ja b.jb.length q.jc]] w fun e w'=>Rb (nX b) e/\Bw w w':=by
 obtain ⟨hn1,hn2⟩:=hnw;have hw6:IntKind.i64.wrap (b.now+6)=b.now+6:=by rw [MH];omega
 have HA:=U0 hat;have HL0:=U0 hl;have hjl:=hl.jl;have hrl:=hl.nl;have hhl:=hl.hl;obtain ⟨I,H,hc⟩:=P_ hat.jb;have HC:=U0 hc;clear hat hl hc;go_enter func26,ntmps26
 go_upto_region 1 with fail
 have C0:=U0 (G6 w [vI b.wd,.bool b.up,vI b.now,vI b.ep,vI b.ed,vL q.sa b.sf.length q.sc,vL q.la b.lo.length q.lc,vL q.fa b.fs.length q.fc,vI b.s.wd,vL q.ta b.s.ts.length q.tc,vL q.ra b.s.rs.length q.rc,vL q.ha b.hd.length q.hc,vL q.oa b.rt.length q.oc,vL q.na b.rn.length q.nc,vL q.ja b.jb.length q.jc] 48);have B0:=U0 (o7 (w:=w) (o:=.cells #[vI b.wd,.bool b.up,vI b.now,vI b.ep,vI b.ed,vL q.sa b.sf.length q.sc,vL q.la b.lo.length q.lc,vL q.fa b.fs.length q.fc,vI b.s.wd,vL q.ta b.s.ts.length q.tc,vL q.ra b.s.rs.length q.rc,vL q.ha b.hd.length q.hc,vL q.oa b.rt.length q.oc,vL q.na b.rn.length q.nc,vL q.ja b.jb.length q.jc] 48));generalize w.alloc (.cells #[vI b.wd,.bool b.up,vI b.now,vI b.ep,vI b.ed,vL q.sa b.sf.length q.sc,vL q.la b.lo.length q.lc,vL q.fa b.fs.length q.fc,vI b.s.wd,vL q.ta b.s.ts.length q.tc,vL q.ra b.s.rs.length q.rc,vL q.ha b.hd.length q.hc,vL q.oa b.rt.length q.oc,vL q.na b.rn.length q.nc,vL q.ja b.jb.length q.jc] 48)=V0 at*
 go_wp2_with fail
 go_loopw [3] (fun i wr=>∃ k:Nat,k<=b.jb.length/\i=.int .i64 k/\Hid (∀ i,i<k->RY b i)/\Hid (Cl wr w.heap.size 48 [.int .i64 b.wd,.bool b.up,.int .i64 b.now,.int .i64 b.ep,.int .i64 b.ed,.slice q.sa b.sf.length q.sc,.slice q.la b.lo.length q.lc,.slice q.fa b.fs.length q.fc,.int .i64 b.s.wd,.slice q.ta b.s.ts.length q.tc,.slice q.ra b.s.rs.length q.rc,.slice q.ha b.hd.length q.hc,.slice q.oa b.rt.length q.oc,.slice q.na b.rn.length q.nc,.slice q.ja b.jb.length q.jc])/\Below w.heap.size w wr) (fun i _=>b.jb.length - (intOf i).toNat)
 case atStart=>exact ⟨0,D5 _,rfl,fun j h=>absurd h (o9 _),C0,B0.out⟩
 case round=>
  generalize wr=f at*;obtain ⟨k,hk,rfl,hd,Cr,hb⟩:=hrel;have W:=U0 hb;clear hb;have E:=Cr.out.cell 14;simp only [@gz Value] at E;by_cases hlt:k<b.jb.length;rotate_left
  · obtain rfl:k=b.jb.length:=O0;have HY:Hid (nX b):=hd.out;go_wp2;go_ret;exact ⟨C_ HY.out,W.out⟩
  obtain ⟨ha,hbw,hcell⟩:=Nc HC.out hlt;have a3r:=m_ hbw W.out.size;have HJ0:Hid (∀ t,t<b.jb.length->∀ u,Bw f u->Bc u I (H+t*3) (dB (b.jb.getD t Oc))):=fun t ht u m=>((hcell t ht).below hbw W.out).below a3r m;have p:Hid (¬ RY b k->¬ nX b):=fun N h=>N (h k hlt);have HD:Hid (RY b k->∀ i,i<k+1->RY b i):=fun N j hj=>by
   rcases o8 j k with h | h
   · exact hd.out j h
   · obtain rfl:j=k:=O0;exact N
  unfold RY at p HD;have HX:Hid (∀ u,Bw f u->Bc u I (H+k*3) (dB (b.jb.getD k Oc))):=HJ0.out k hlt;have HYP:Hid (∀ u,Bw f u->u.cell? (aA I (H+(k - 1)*3))=some (vS (b.jb.getD (k - 1) Oc).nm)):=fun u m=>HJ0.out (k - 1) O0 u m 0 _ rfl;generalize b.jb.getD k Oc=x at*;generalize b.jb.getD (k - 1) Oc=y at*;rw [ha] at E;have HAq:=U0 ha;have g0:=HX.out f (Z4 _ _) 0 _ rfl;have g1:=HX.out f (Z4 _ _) 1 _ rfl;have g2:=HX.out f (Z4 _ _) 2 _ rfl;dsimp only [Nat.add_zero] at g0;clear hcell hd ha
  go_upto_region 5 with fail
  have CD1:=U0 (G6 f [vS x.nm,vI x.wk,vI x.un] 120);have BV1:=U0 (o7 (w:=f) (o:=.cells #[vS x.nm,vI x.wk,vI x.un] 120));generalize f.alloc (.cells #[vS x.nm,vI x.wk,vI x.un] 120)=V1 at*;have CV1:=U0 (Cr.out.below BV1.out Cr.out.lt);clear g0 g1 g2 E;have r0:=CD1.out.cell 0;simp only [@gz Value] at r0
  go_wp2_with (refine Z9 rfl (Y8 48 _ rfl (B:=w.heap.size) (j:=0) (cs:=[vI b.wd,.bool b.up,vI b.now,vI b.ep,vI b.ed,vL q.sa b.sf.length q.sc,vL q.la b.lo.length q.lc,vL q.fa b.fs.length q.fc,vI b.s.wd,vL q.ta b.s.ts.length q.tc,vL q.ra b.s.rs.length q.rc,vL q.ha b.hd.length q.hc,vL q.oa b.rt.length q.oc,vL q.na b.rn.length q.nc,vL q.ja b.jb.length q.jc]) rfl (fun q v e=>by rw [E8];exact (CV1.out.cell q).trans e) underlying48 rfl J3) ?_)
  refine (c60 b q x.nm V1 hrl (rf HA.out.rn (G7 W.out BV1.out))).mono ?_;rintro e V ⟨⟨r,rfl,hr⟩,hb1⟩;have BV:=U0 (G7 BV1.out hb1);have Q:=U0 (CV1.out.below hb1 CV1.out.lt);have P:=U0 (CD1.out.below hb1 CD1.out.lt);have HQ:=U0 (G7 W.out BV.out);have hvd:Bw V V.drew:=(Z4 _ _).drew;clear hb1 r0 CV1 CD1 BV1
  go_upto_region 6 with fail
  rcases hr with ⟨rfl,hno⟩ | ⟨i,rfl,hi,hnm,a5m⟩
  · have c:=U0 (p.out (fun h=>by
     obtain ⟨t,ht,e,_⟩:=h.1;exact hno t ht e))
    refine wp_region_held_drew (S:=fun _=>True) J3 trivial fun hH=>?_;refine Y0 0 ?_;refine Y0 1 ?_;refine Y0 2 ?_;refine Y4 3 ?_;refine Y4 4 ?_;refine Y4 5 ?_;refine Y4 6 ?_;refine Y4 7 ?_;refine Y4 8 ?_;refine Y4 9 ?_;refine Y0 10 ?_;refine Y0 11 ?_;refine Y4 12 ?_;refine Y4 13 ?_;refine Y4 14 ?_;refine Y4 15 ?_;refine Y4 16 ?_;refine Y4 17 ?_;refine Y4 18 ?_;refine Y4 19 ?_;refine Y4 20 ?_;refine Y4 21 ?_;refine Y4 22 ?_;refine Y4 23 ?_;refine Y4 24 ?_;refine Y4 25 ?_;refine Y0 26 ?_;refine Y0 27 ?_;refine Y4 28 ?_;refine Y4 29 ?_;refine Y4 30 ?_;refine Y4 31 ?_;refine Y4 32 ?_;refine Y4 33 ?_;refine Y4 34 ?_;refine Y0 35 ?_;refine Y0 36 ?_;refine Y4 37 ?_;refine Y4 38 ?_;refine Y4 39 ?_;refine Y4 40 ?_;refine Y4 41 ?_;refine Y4 42 ?_;refine Y4 43 ?_;refine Y4 44 ?_;refine Y4 45 ?_;refine Y0 46 ?_;refine wdn ?_;go_wp2;go_ret;exact ⟨G5 c.out,HQ.out.drew⟩
  rcases P_ HA.out.rn with ⟨R,off,hss | ⟨han,hbn,hcn⟩⟩
  · rw [hss] at hi;exact absurd hi (o9 _)
  obtain ⟨ai,ci,gB,gL⟩:=(hcn i hi).below hbn HQ.out;have a6F:=m_ hbn HQ.out.size;have HF:Hid ((b.rn.getD i Aa).md=1/\(b.rn.getD i Aa).wt=⟨#[]⟩->∃ t:Nat,t<b.rn.length/\(b.rn.getD t Aa).nm=x.nm/\(∀ j,j<t->(b.rn.getD j Aa).nm≠x.nm)/\(b.rn.getD t Aa).md=1/\(b.rn.getD t Aa).wt=⟨#[]⟩):=fun h=>⟨i,hi,hnm,a5m,h⟩;have HF2:Hid ((∃ t:Nat,t<b.rn.length/\(b.rn.getD t Aa).nm=x.nm/\(∀ j,j<t->(b.rn.getD j Aa).nm≠x.nm)/\(b.rn.getD t Aa).md=1/\(b.rn.getD t Aa).wt=⟨#[]⟩)->(b.rn.getD i Aa).md=1/\(b.rn.getD i Aa).wt=⟨#[]⟩):=fun ⟨t,ht,e1,e2,e3⟩=>by
   rcases Aw t i with h | h | h
   · exact absurd e1 (a5m t h)
   · rw [<- h];exact e3
   exact absurd hnm (e2 i h)
  have GB:=U0 gB;have HAn:=U0 han;generalize b.rn.getD i Aa=z at*;clear hcn han gB gL hnm a5m;have n:Hid (∀ u,Bw V u->u.cell? (aW w 2)=some (vI b.now)/\u.cell? (aW w 11)=some (vL q.ha b.hd.length q.hc)/\u.cell? (aW w 13)=some (vL (some (aA R off)) b.rn.length q.nc)/\u.cell? (aW w 14)=some (vL (some (aA I H)) b.jb.length q.jc)/\u.cell? (aA I (H+(k - 1)*3))=some (vS y.nm)/\u.cell? (aW f 0)=some (vS x.nm)/\u.cell? (aW f 1)=some (vI x.wk)/\u.cell? (aW f 2)=some (vI x.un)/\Bc u R (off+i*6) (Ht (z,vL ai z.ls.length ci))):=fun u m=>by
   have h1:=Q.out.below m Q.out.lt;have h2:=P.out.below m P.out.lt;have h3:=G7 BV.out m;exact ⟨h1.cell 2,h1.cell 11,(h1.cell 13).trans (by rw [HAn.out];rfl),(h1.cell 14).trans (by rw [HAq.out];rfl),HYP.out u h3,h2.cell 0,h2.cell 1,h2.cell 2,GB.out.below a6F m⟩
  have HJC:Hid (∀ t,t<b.jb.length->∀ u,Bw V u->u.cell? (aA I (H+t*3+1))=some (vI (b.jb.getD t Oc).wk)):=fun t ht u m=>HJ0.out t ht u (G7 BV.out m) 1 _ rfl;refine wp_region_held_drew (S:=fun u=>u.cell? (aW w 2)=some (vI b.now)/\u.cell? (aW w 11)=some (vL q.ha b.hd.length q.hc)/\u.cell? (aW w 13)=some (vL (some (aA R off)) b.rn.length q.nc)/\u.cell? (aW w 14)=some (vL (some (aA I H)) b.jb.length q.jc)/\u.cell? (aA I (H+(k - 1)*3))=some (vS y.nm)/\u.cell? (aW f 0)=some (vS x.nm)/\u.cell? (aW f 1)=some (vI x.wk)/\u.cell? (aW f 2)=some (vI x.un)/\Bc u R (off+i*6) (Ht (z,vL ai z.ls.length ci))) J3 (n.out _ hvd) fun hH=>?_;have hi0:¬ (i:Int)<0:=O0;refine Y0 0 ?_;refine Y0 1 ?_;refine Y0 2 ?_;refine Y0 3 ?_;refine Y0 4 ?_;refine Y0 5 ?_;refine Y0 6 ?_;refine tq 7 hH ?_ (hv:=fun u m=>Y8 115 _ rfl (B:=R) (j:=off+i*6) (cs:=Ht (z,vL ai z.ls.length ci)) rfl m.2.2.2.2.2.2.2.2 underlying115 rfl J3)
  try simp only [qq]
  refine rq 8 fun K a=>?_;go_simp;refine (c61 z ai ci V.drew).mono ?_;rintro e F ⟨⟨bo,rfl,hbo⟩,hb8⟩;have d:=U0 (hvd.trans (hb8.mono x9));have J:=U0 (G7 HQ.out d.out);clear hb8
  go_wp2_with fail
  refine J8 a (n.out _ d.out) fun hH=>?_;clear a K
  cases bo with
  | false=>
   have c:=U0 (p.out (fun h=>by have:=hbo.2 (HF2.out h.1);cases this));clear hbo;refine Y0 9 ?_;refine Y0 10 ?_;refine Y0 11 ?_;refine Y4 12 ?_;refine Y4 13 ?_;refine Y4 14 ?_;refine Y4 15 ?_;refine Y4 16 ?_;refine Y4 17 ?_;refine Y4 18 ?_;refine Y4 19 ?_;refine Y4 20 ?_;refine Y4 21 ?_;refine Y4 22 ?_;refine Y4 23 ?_;refine Y4 24 ?_;refine Y4 25 ?_;refine Y0 26 ?_;refine Y0 27 ?_;refine Y4 28 ?_;refine Y4 29 ?_;refine Y4 30 ?_;refine Y4 31 ?_;refine Y4 32 ?_;refine Y4 33 ?_;refine Y4 34 ?_;refine Y0 35 ?_;refine Y0 36 ?_;refine Y4 37 ?_;refine Y4 38 ?_;refine Y4 39 ?_;refine Y4 40 ?_;refine Y4 41 ?_;refine Y4 42 ?_;refine Y4 43 ?_;refine Y4 44 ?_;refine Y4 45 ?_;refine Y0 46 ?_;refine wdn ?_;go_wp2;go_ret;exact ⟨G5 c.out,J.out⟩
  | true=>
  have a5K:=U0 (HF.out (hbo.1 rfl));clear hbo;refine Y0 9 ?_;refine Y0 10 ?_;refine Y0 11 ?_;refine Y0 12 ?_;refine Y0 13 ?_;by_cases h0:0<k;rotate_left
  · have HLS:Hid (0<k->Op.bytesLess y.nm.toList x.nm.toList=true):=fun h=>absurd h h0;rw [P9 h0];refine Y0 14 ?_;refine Y4 15 ?_;refine Y4 16 ?_;refine Y4 17 ?_;refine Y4 18 ?_;refine Y4 19 ?_;refine Y4 20 ?_;refine Y4 21 ?_;refine Y4 22 ?_;refine Y4 23 ?_;refine Y4 24 ?_;refine Y0 25 ?_;refine Y0 26 ?_;refine Y0 27 ?_;refine Y0 28 ?_;refine Y0 29 ?_;refine Y0 30 ?_;refine Y0 31 ?_;refine Y0 32 ?_;refine rq 33 fun K a=>?_;go_simp;refine (c17 x.wk 1 b.hd.length F).mono ?_;rintro e w7 ⟨rfl,L⟩;obtain rfl:=L.symm;by_cases C:1<=x.wk/\x.wk<=b.hd.length;rotate_left
    · have c:=U0 (p.out (fun h=>C h.2.2.1));rw [P9 C]
      go_wp2_with fail
      refine J8 a (n.out _ d.out) fun hH=>?_;clear a K;refine Y0 34 ?_;refine Y0 35 ?_;refine Y0 36 ?_;refine Y4 37 ?_;refine Y4 38 ?_;refine Y4 39 ?_;refine Y4 40 ?_;refine Y4 41 ?_;refine Y4 42 ?_;refine Y4 43 ?_;refine Y4 44 ?_;refine Y4 45 ?_;refine Y0 46 ?_;refine wdn ?_;go_wp2;go_ret;exact ⟨G5 c.out,J.out⟩
    rw [y_ C]
    go_wp2_with fail
    refine J8 a (n.out _ d.out) fun hH=>?_;clear a K;refine Y0 34 ?_;refine Y0 35 ?_;refine Y0 36 ?_;refine Y0 37 ?_;refine Y0 38 ?_;refine Y0 39 ?_;refine Y0 40 ?_;refine Y0 41 ?_;refine Y0 42 ?_;refine Y0 43 ?_
    try rw [hw6]
    refine rq 44 fun K a=>?_;go_simp;refine (c17 x.un b.now (b.now+6) F).mono ?_;rintro e w7 ⟨rfl,L⟩;obtain rfl:=L.symm;by_cases D:b.now<=x.un/\x.un<=b.now+6;rotate_left
    · have c:=U0 (p.out (fun h=>D h.2.2.2.1));rw [P9 D]
      go_wp2_with fail
      refine J8 a (n.out _ d.out) fun hH=>?_;clear a K;refine Y0 45 ?_;refine Y0 46 ?_;refine wdn ?_;go_wp2;go_ret;exact ⟨G5 c.out,J.out⟩
    rw [y_ D]
    go_wp2_with fail
    refine J8 a (n.out _ d.out) fun hH=>?_;clear a K;refine Y0 45 ?_;refine Y0 46 ?_;refine wdn ?_;have C5:=U0 (Q.out.below d.out Q.out.lt);have X:=U0 (P.out.below d.out P.out.lt)
    go_wp2_with fail
    go_loopw [6] (fun i wr=>∃ t:Nat,t<=k/\i=.int .i64 t/\Hid (∀ j,j<t->(b.jb.getD j Oc).wk≠x.wk)/\Below F.heap.size F wr) (fun i _=>k - (intOf i).toNat)
    case atStart=>exact ⟨0,D5 _,rfl,fun j h=>absurd h (o9 _),Z4 _ _⟩
    case round=>
     obtain ⟨t,ht,rfl,O,l⟩:=hrel;have Y:=U0 (C5.out.below l C5.out.lt);have D6:=U0 (X.out.below l X.out.lt);have U:=U0 (G7 J.out l);have E:=Y.out.cell 14;have d1:=D6.out.cell 1;simp only [@gz Value] at E d1;rw [HAq.out] at E;by_cases htk:t<k;rotate_left
     · obtain rfl:t=k:=O0;have HD1:=U0 (HD.out ⟨a5K.out,HLS.out,C,D,O.out⟩);clear l;go_wp2;go_roundw
       case rel=>exact ⟨t+1,O0,by go_num,HD1,Y,U.out⟩
       case measure=>simp [intOf];omega
     have ht1:t<b.jb.length:=O0;have j1:=HJC.out t ht1 wr (G7 d.out l);have hbd:=U0 (l.drew);have HJD:Hid ((b.jb.getD t Oc).wk≠x.wk->∀ j,j<t+1->(b.jb.getD j Oc).wk≠x.wk):=fun N j hj=>by
      rcases o8 j t with h | h
      · exact O.out j h
      · obtain rfl:j=t:=O0;exact N
     have HJN:Hid ((b.jb.getD t Oc).wk=x.wk->¬ nX b):=fun h=>p.out (fun g=>g.2.2.2.2 t htk h);generalize (b.jb.getD t Oc).wk=Z at*;clear O l;by_cases A:Z=x.wk
     · have c:=U0 (HJN.out A);rw [A] at j1
       go_wp2_with fail
       go_region
       all_goals go_wp2
       all_goals go_ret
       all_goals exact ⟨G5 c.out,U.out.drew⟩
     have HJ1:=U0 (HJD.out A);have z:(Z==x.wk)=false:=n_.2 A
     go_wp2_with fail
     go_region
     all_goals go_wp2
     all_goals go_roundw
     all_goals first
      | exact ⟨t+1,O0,by go_num,HJ1,hbd.out⟩
      | (simp [intOf];omega)
  rw [y_ h0];refine Y0 14 ?_;refine Y0 15 ?_;refine Y0 16 ?_;refine Y0 17 ?_;refine Y0 18 ?_;have hk1:k - 1<b.jb.length:=O0;rw [show (k:Int) - 1=((k - 1:Nat):Int) by omega,T.Na (k - 1) O0];refine Y0 19 ?_;refine Y0 20 ?_;refine Y0 21 ?_;refine Y0 22 ?_;refine Y0 23 ?_;refine Y0 24 ?_;by_cases hls:Op.bytesLess y.nm.toList x.nm.toList=true;rotate_left
  · have c:=U0 (p.out (fun h=>hls (h.2.1 h0)));rw [Uh.2 hls,QH];refine Y0 25 ?_;refine Y0 26 ?_;refine Y0 27 ?_;refine Y4 28 ?_;refine Y4 29 ?_;refine Y4 30 ?_;refine Y4 31 ?_;refine Y4 32 ?_;refine Y4 33 ?_;refine Y4 34 ?_;refine Y0 35 ?_;refine Y0 36 ?_;refine Y4 37 ?_;refine Y4 38 ?_;refine Y4 39 ?_;refine Y4 40 ?_;refine Y4 41 ?_;refine Y4 42 ?_;refine Y4 43 ?_;refine Y4 44 ?_;refine Y4 45 ?_;refine Y0 46 ?_;refine wdn ?_;go_wp2;go_ret;exact ⟨G5 c.out,J.out⟩
  have HLS:Hid (0<k->Op.bytesLess y.nm.toList x.nm.toList=true):=fun _=>hls;rw [hls,jJ];refine Y0 25 ?_;refine Y0 26 ?_;refine Y0 27 ?_;refine Y0 28 ?_;refine Y0 29 ?_;refine Y0 30 ?_;refine Y0 31 ?_;refine Y0 32 ?_;refine rq 33 fun K a=>?_;go_simp;refine (c17 x.wk 1 b.hd.length F).mono ?_;rintro e w7 ⟨rfl,L⟩;obtain rfl:=L.symm;by_cases C:1<=x.wk/\x.wk<=b.hd.length;rotate_left
  · have c:=U0 (p.out (fun h=>C h.2.2.1));rw [P9 C]
    go_wp2_with fail
    refine J8 a (n.out _ d.out) fun hH=>?_;clear a K;refine Y0 34 ?_;refine Y0 35 ?_;refine Y0 36 ?_;refine Y4 37 ?_;refine Y4 38 ?_;refine Y4 39 ?_;refine Y4 40 ?_;refine Y4 41 ?_;refine Y4 42 ?_;refine Y4 43 ?_;refine Y4 44 ?_;refine Y4 45 ?_;refine Y0 46 ?_;refine wdn ?_;go_wp2;go_ret;exact ⟨G5 c.out,J.out⟩
  rw [y_ C]
  go_wp2_with fail
  refine J8 a (n.out _ d.out) fun hH=>?_;clear a K;refine Y0 34 ?_;refine Y0 35 ?_;refine Y0 36 ?_;refine Y0 37 ?_;refine Y0 38 ?_;refine Y0 39 ?_;refine Y0 40 ?_;refine Y0 41 ?_;refine Y0 42 ?_;refine Y0 43 ?_
  try rw [hw6]
  refine rq 44 fun K a=>?_;go_simp;refine (c17 x.un b.now (b.now+6) F).mono ?_;rintro e w7 ⟨rfl,L⟩;obtain rfl:=L.symm;by_cases D:b.now<=x.un/\x.un<=b.now+6;rotate_left
  · have c:=U0 (p.out (fun h=>D h.2.2.2.1));rw [P9 D]
    go_wp2_with fail
    refine J8 a (n.out _ d.out) fun hH=>?_;clear a K;refine Y0 45 ?_;refine Y0 46 ?_;refine wdn ?_;go_wp2;go_ret;exact ⟨G5 c.out,J.out⟩
  rw [y_ D]
  go_wp2_with fail
  refine J8 a (n.out _ d.out) fun hH=>?_;clear a K;refine Y0 45 ?_;refine Y0 46 ?_;refine wdn ?_;have C5:=U0 (Q.out.below d.out Q.out.lt);have X:=U0 (P.out.below d.out P.out.lt)
  go_wp2_with fail
  go_loopw [6] (fun i wr=>∃ t:Nat,t<=k/\i=.int .i64 t/\Hid (∀ j,j<t->(b.jb.getD j Oc).wk≠x.wk)/\Below F.heap.size F wr) (fun i _=>k - (intOf i).toNat)
  case atStart=>exact ⟨0,D5 _,rfl,fun j h=>absurd h (o9 _),Z4 _ _⟩
  case round=>
   obtain ⟨t,ht,rfl,O,l⟩:=hrel;have Y:=U0 (C5.out.below l C5.out.lt);have D6:=U0 (X.out.below l X.out.lt);have U:=U0 (G7 J.out l);have E:=Y.out.cell 14;have d1:=D6.out.cell 1;simp only [@gz Value] at E d1;rw [HAq.out] at E;by_cases htk:t<k;rotate_left
   · obtain rfl:t=k:=O0;have HD1:=U0 (HD.out ⟨a5K.out,HLS.out,C,D,O.out⟩);clear l;go_wp2;go_roundw
     case rel=>exact ⟨t+1,O0,by go_num,HD1,Y,U.out⟩
     case measure=>simp [intOf];omega
   have ht1:t<b.jb.length:=O0;have j1:=HJC.out t ht1 wr (G7 d.out l);have hbd:=U0 (l.drew);have HJD:Hid ((b.jb.getD t Oc).wk≠x.wk->∀ j,j<t+1->(b.jb.getD j Oc).wk≠x.wk):=fun N j hj=>by
    rcases o8 j t with h | h
    · exact O.out j h
    · obtain rfl:j=t:=O0;exact N
   have HJN:Hid ((b.jb.getD t Oc).wk=x.wk->¬ nX b):=fun h=>p.out (fun g=>g.2.2.2.2 t htk h);generalize (b.jb.getD t Oc).wk=Z at*;clear O l;by_cases A:Z=x.wk
   · have c:=U0 (HJN.out A);rw [A] at j1
     go_wp2_with fail
     go_region
     all_goals go_wp2
     all_goals go_ret
     all_goals exact ⟨G5 c.out,U.out.drew⟩
   have HJ1:=U0 (HJD.out A);have z:(Z==x.wk)=false:=n_.2 A
   go_wp2_with fail
   go_region
   all_goals go_wp2
   all_goals go_roundw
   all_goals first
    | exact ⟨t+1,O0,by go_num,HJ1,hbd.out⟩
    | (simp [intOf];omega)
