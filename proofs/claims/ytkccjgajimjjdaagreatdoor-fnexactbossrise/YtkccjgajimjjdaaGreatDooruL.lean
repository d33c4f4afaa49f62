import Derived.Test.YtkccjgajimjjdaaGreatDoorzR
set_option linter.unusedVariables false
set_option maxHeartbeats 8000000
set_option maxRecDepth 100000
namespace Go.Proofs.YtkccjgajimjjdaaGreatDoor
open Proofs.Tryz Go.RowKit
structure Ml(m:MS):Prop where
 e:0<=m.ep/\m.ep<=200
 fz:∀i,(m.fs.getD i T.G9).le 1048576
 st:m.s.le 1048576
theorem a2k:Ml XO:=⟨⟨BF _,Z5⟩,λi=>⟨J4 _,J4 _⟩,⟨J4 _,λi=>J4 _⟩,J4 _,λi=>⟨J4 _,J4 _,λi=>⟨J4 _,J4 _⟩,J4 _⟩⟩
theorem a1A{m:MS}(h:MOk m):Ml m:=⟨⟨h.e0,h.e1⟩,λi=>⟨I8 (h.fz i).1 Z5,I8 (h.fz i).2 Z5⟩,BL h.st⟩
theorem a3m(a:OA)(cap:Nat)(es:LB)(W:Int)(w:World)(hl:es.length<=1048576)(f:∀i,(es.getD i ByteArray.empty).size<=1048576)(n:Z7 w a es):
 Calls prog 20 #[.slice a es.length cap,.int .i64 W] w λe w'=>(∃cd m fa fc ta tc ra rc,e=.returned (.agg #[.int .i64 cd,.int .i64 m.ep,.slice fa m.fs.length fc,.int .i64 m.s.wd,.slice ta m.s.ts.length tc,.slice ra m.s.rs.length rc])/\Out RES es W cd m/\(Kp w.heap.size w' λu=>T.G6 u fa m.fs/\Ef u ta ra m.s)/\Ml m)/\Bw w w':=by
 refine(c20 a cap es W w hl f n).mono ?_;rintro e w'⟨⟨vs,rfl,h⟩,l⟩;refine⟨?_,l⟩;rcases h with⟨h1,rfl⟩|⟨h1,o,h2,b⟩
 ·exact⟨1,XO,none,0,none,0,none,0,rfl,⟨Yx,.inl ⟨h1,rfl,rfl⟩⟩,λu _ _=>⟨.inl rfl,.inl rfl,.inl rfl⟩,a2k⟩
 rcases b with⟨rfl,rfl⟩|⟨m,rfl,b⟩
 ·exact⟨2,XO,none,0,none,0,none,0,rfl,⟨Yx,.inr ⟨h1,_,h2,.inl ⟨rfl,rfl,rfl⟩⟩⟩,λu _ _=>⟨.inl rfl,.inl rfl,.inl rfl⟩,a2k⟩
 obtain⟨fv,tv,rv,rfl,c,d⟩:=b.ex;obtain⟨fa,fc,rfl,hf⟩:=Ij c;obtain⟨ta,tc,rfl⟩:=D9 d.1;have r:=d;obtain⟨_,vs0,k⟩:=d;obtain⟨ra,rc,rfl⟩:=D9 k.row;refine⟨0,m,fa,fc,ta,tc,ra,rc,rfl,⟨kF b.ok,.inr ⟨h1,_,h2,.inr ⟨rfl,rfl⟩⟩⟩,λu f j=>⟨?_,Ep (r.keep j)⟩,a1A b.ok⟩;have p:=I5 (u':=u) c (λq g=>j q (Z4 c g) (X9 c g));obtain⟨fa',fc',e,hf⟩:=Ij p;injection e with e;subst e;exact hf
theorem a0m:Ug bs0 1048576:=⟨J4 _,λi=>J4 _,J4 _,λi=>J4 _,J4 _,λi=>⟨J4 _,J4 _⟩,⟨⟨J4 _,λi=>J4 _⟩,J4 _,λi=>⟨J4 _,J4 _,λi=>⟨J4 _,J4 _⟩,J4 _⟩⟩,J4 _,J4 _,λi=>J4 _,J4 _,λi=>⟨J4 _,J4 _,⟨J4 _,λi=>⟨J4 _,J4 _⟩⟩,J4 _⟩,J4 _,λi=>J4 _⟩
theorem fO{b:Bs}{m:MS}(h:Ug b 1048576)(a:Sml m)(hm:Ml m):Ug (Uj b m) 1048576:=by
 unfold Uj;split;rotate_left
 ·exact h
 rename_i h1;have hx:(I4 (m_ (J9 (m.ep+1)))).size<=1048576:=by
  have e:m_ (J9 (m.ep+1))=Bd++32::dec (m.ep+1)++[10]:=by simp[m_,n_,J9,Ld]
  have:=QT 2 (m.ep+1) (by have:=hm.e;omega) (by have:=h1.1;show _<1000;omega);have hw:Bd.length<=10:=Z5;rw[P5,e];simp only[P9,u_,Td];omega
 exact { h with ll:=(by show(b.lo++[_]).length<=_;rw[P9];have:=h1.2;show _+1<=_;omega),ls:=(λi=>by
   show((b.lo++[I4 (m_ (J9 (m.ep+1)))]).getD i ByteArray.empty).size<=1048576;simp only[List.getD,List.getElem?_append];split
   ·exact h.ls i
   cases i-b.lo.length with
   | zero=>exact hx
   | succ n=>exact J4 _),fl:=I8 a.fl Z5,fz:=hm.fz,st:=hm.st }
theorem BX.off{w V z:World}{Y:List Value}{g:Nat}(h:BX w Y V)(a:Jr g V z)(hg:w.heap.size+2<=g):BX w Y z:=⟨h.h0.on a (by omega),h.h1.on a (by omega),h.bw.trans (a.below (by omega)),by rw[a.size];exact h.hz⟩
theorem YU{A:Nat}{u u':World}{b:Bs}{q:Ba}{m:MS}{fa ta ra h:OA}{fc tc rc d:Nat}{x:BY}{e:Int}(hR:nG A u b q)(hF:T.G6 u' fa m.fs)(i:Ef u' ta ra m.s)(f:∀p t,Ah u p t->t≠47->(Value.slice q.la b.lo.length q.lc).ownBlock≠some p->u'.heap[p]?=u.heap[p]?)(ho:u'.ownsRow A 9 1 (.slice h (b.lo.length+1) d) (b.lo.length+1) (b.lo.map .string++[.string x])):Gh u' {b with up:=true,ep:=e,fs:=m.fs,s:=m.s,lo:=b.lo++[x]} {q with fa:=fa,fc:=fc,ta:=ta,tc:=tc,ra:=ra,rc:=rc,la:=h,lc:=d}:=by
 have g:∀p t,Ah u p t->t≠9->t≠47->u'.heap[p]?=u.heap[p]?:=λp t hT j h47=>f p t hT h47 (λe=>j (Z8 hT (N7 hR.lo e)));refine⟨Vl (I5 hR.sf (λp a=>f p 9 (N7 hR.sf a) Z5 (hR.n1 p a))),Vl (A:=A) (c:=d) ?_,hF,i,PL (I5 hR.hd (λp a=>g p 3 (N7 hR.hd a) Z5 Z5)),Vl (I5 hR.rt (λp a=>f p 9 (N7 hR.rt a) Z5 (λe=>hR.n5 p e a))),?_,UL (I5 hR.jb (λp a=>g p 127 (N7 hR.jb a) Z5 Z5))⟩
 ·show u'.ownsRow A 9 1 (.slice h (b.lo++[x]).length d) (b.lo++[x]).length ((b.lo++[x]).map .string);rw[P9,Rk];exact ho
 obtain⟨vs,r⟩:=hR.rn;exact uQ (r.keep (λp t hT ht _=>g p t hT (by rcases ht with rfl|rfl<;>decide) (by rcases ht with rfl|rfl<;>decide)))
structure RK(b:Bs)(V:World)(M:Nat)(cd:Int)(m:MS)(fa ta ra:OA)(fc tc rc:Nat)(u:World):Prop where
 out:Out RES (b.sf++b.lo) b.wd cd m
 cm:Cl u M 62 [.int .i64 cd,.int .i64 m.ep,.slice fa m.fs.length fc,.int .i64 m.s.wd,.slice ta m.s.ts.length tc,.slice ra m.s.rs.length rc]
 kp:Kp V.heap.size u λu=>T.G6 u fa m.fs/\Ef u ta ra m.s
 bw:Bw V u
 hM:V.heap.size<=M
 ml:Ml m
def Rn5(w:World)(b:Bs)(e:Ending)(w':World):Prop:=∃r b' q',VSp b r/\OB RES b r b'/\Ug b' 1048576/\e=.returned (.agg (bsV b' q').toArray)/\nG w.heap.size w' b' q'
theorem c5(b:Bs)(q:Ba)(w:World)(hl:Ug b 1048576)(hsl:b.sf.length+b.lo.length<=1048576)(hcp:ER b q)(hat:Gh w b q):
 Calls prog 5 #[.agg (bsV b q).toArray] w λe w'=>Rn5 w b e w'/\Bw w w':=by
 have HA:=U0 hat;have HL:=U0 hl;have HES:Hid (∀i,((b.sf++b.lo).getD i ByteArray.empty).size<=1048576):=λi=>by
  by_cases h:i<b.sf.length
  ·rw[show(b.sf++b.lo).getD i ByteArray.empty=b.sf.getD i ByteArray.empty by simp[List.getD,G_ h]];exact hl.ss i
  rw[show(b.sf++b.lo).getD i ByteArray.empty=b.lo.getD (i-b.sf.length) ByteArray.empty by simp[List.getD,Ue (Js h)]];exact hl.ls _
 go_in
 go_upto_region 1 with fail
 have H:Hid (BX w (bsV b q) ((w.alloc (.cells (bsV b q).toArray 47)).alloc (.cells bz.toArray 47))):=⟨U8 (X4 w (bsV b q) 47) _,Ei (xs:=bz) E5,Y6.alloc E5 _,E5⟩;generalize (w.alloc (.cells (bsV b q).toArray 47)).alloc (.cells bz.toArray 47)=V at*
 go_wp2_with(refine H8 H.out.h0 rfl 47 _ rfl (j:=0) (bsV b q) rfl rfl underlying47 rfl Y1 ?_)
 refine(c18 b q V HL hsl hcp (HA.out.below H.out.bw)).mono ?_;rintro e V1⟨h7,v⟩;obtain⟨r,rfl,hr⟩:=a0C h7;have HR:=U0 hr
 replace H:=U0 (H.out.call v)
 cases r
 ·go_wp2_with(refine I7 rfl 47 _ _ rfl (j:=0) rfl rfl H.out.h1 X7 (Y5 rfl) Y1 ?_;intro z F f)
  exact Q7 (J7 (P:=prog) (ty:=47) rfl _ z (w.heap.size+1) bz _ rfl F.blk underlying47 rfl Y1) rfl ⟨⟨false,bs0,ba0,HR,rfl,a0m,rfl,UY _ _⟩,H.out.bw.trans (f.below O0)⟩
 go_wp2_with(refine H8 H.out.h0 rfl 47 _ rfl (j:=0) (bsV b q) rfl rfl underlying47 rfl Y1 ?_)
 refine(c19 b q V1 HL (HA.out.below H.out.bw)).mono ?_;rintro e V2⟨⟨n,rfl,hq⟩,v⟩;have C:=U0 hq;have hz:=H.out.hz
 replace H:=U0 (H.out.call v)
 have hX:=H.out.hz
 go_upto_region 4 with(refine I7 rfl 47 _ _ rfl (j:=0) rfl rfl (X4 V2 bz 47) X7 (Y5 rfl) Y1 ?_;intro Z l f)
 have bZ:=Y6.trans (f.below X7)
 replace H:=U0 (H.out.call bZ)
 replace C:=U0 (C.out.mv (.below bZ) hz)
 have hXZ:=l.lt
 replace l:=U0 l
 have HLZ:Hid (∀p,(Value.slice n.la b.lo.length n.lc).ownBlock=some p->p<Z.heap.size):=λp Q=>X9 C.out.lo Q;generalize V2.heap.size=X at*
 try simp only[qq]
 go_cut[4] from 5 (λs4 wx=>∃M cd m fa ta ra fc tc rc,s4=.pointer (some ⟨M,0,none⟩)/\Hid (RK b Z M cd m fa ta ra fc tc rc wx))
 case first=>
  have I:Hid (∀u,Bw Z u->u.cell? ⟨w.heap.size,0,none⟩=some (.int .i64 b.wd)/\u.cell? ⟨w.heap.size,5,none⟩=some (.slice q.sa b.sf.length q.sc)/\u.cell? ⟨w.heap.size,6,none⟩=some (.slice q.la b.lo.length q.lc)):=λu A=>have h:=(H.out.call A).h0;⟨h.cell 0,h.cell 5,h.cell 6⟩
  have HCA:Hid (∀u,Bw Z u->Calls prog 21 #[.agg #[.slice q.sa b.sf.length q.sc,.slice q.la b.lo.length q.lc]] u λe w'=>(∃a c,e=.returned (.slice a (b.sf++b.lo).length c)/\Z7 w' a (b.sf++b.lo))/\Bw u w'):=λu A=>c21 b.sf b.lo q.sa q.la q.sc q.lc u hsl (HA.out.below (J5 H.out.bw A)).sf (HA.out.below (J5 H.out.bw A)).lo;have HCB:Hid (∀u a c,Bw Z u->Z7 u a (b.sf++b.lo)->Calls prog 20 #[.slice a (b.sf.length+b.lo.length) c,.int .i64 b.wd] u λe w'=>(∃cd m fa fc ta tc ra rc,e=.returned (.agg #[.int .i64 cd,.int .i64 m.ep,.slice fa m.fs.length fc,.int .i64 m.s.wd,.slice ta m.s.ts.length tc,.slice ra m.s.rs.length rc])/\Out RES (b.sf++b.lo) b.wd cd m/\(Kp u.heap.size w' λu=>T.G6 u fa m.fs/\Ef u ta ra m.s)/\Ml m)/\Bw u w'):=λu a c A h=>by
   have hc:=a3m a c (b.sf++b.lo) b.wd u (by rw[P9];exact hsl) HES h;rw[P9]at hc;exact hc
  have d:Bw Z Z.drew:=(G5 _ _).drew;refine FI I d Y1 λhH=>?_;generalize Z.drew=y at*
  iterate 2 refine sq ?_
  refine tq 3 hH ?_;refine p_ 4 ?_;refine wpAnyH_ready (rs:=[2, 6]) Y1 E5 (AllReadyH.cons (o:=⟨some 13,.call ⟨.value (.func 21),#[.tmp 12],#[37]⟩,22,_,_,none⟩) rfl (λK g=>?_) (AllReadyH.cons (o:=⟨some 4,.alloc 62,0,_,_,none⟩) rfl (λK g=>?_) AllReadyH.nil))
  ·go_simp;refine(HCA _ d).mono ?_;rintro e y2⟨⟨a1,k1,rfl,h1⟩,v⟩;have S1:=U0 h1
   replace d:=J5 d v
   go_simp;refine A8 g (I _ d) λhH=>?_;refine wpAnyH_ready (rs:=[5, 6]) Y1 E5 (AllReadyH.cons (o:=⟨some 16,.call ⟨.value (.func 20),#[.tmp 13,.tmp 15],#[22,3]⟩,62,_,_,none⟩) rfl (λK g=>?_) (AllReadyH.cons (o:=⟨some 4,.alloc 62,0,_,_,none⟩) rfl (λK g=>?_) AllReadyH.nil))
   focus
    go_simp;refine(HCB _ a1 k1 d S1).mono ?_;rintro e y25⟨⟨cd,m,fa,fc,ta,tc,ra,rc,rfl,ho,hk,hml⟩,v⟩;have HO:=U0 ho;have HK:=U0 hk;have HML:=U0 hml;have hzB:=d.size
    replace d:=J5 d v
    go_simp;refine A8 g (I _ d) λhH=>?_;refine rq 6 λK g=>?_;go_simp;obtain⟨a8r,J⟩:∃y':World,y'=y25.alloc (.cells #[.int .i64 0,.int .i64 0,.slice none 0 0,.int .i64 0,.slice none 0 0,.slice none 0 0] 62):=⟨_,rfl⟩;have D:=U0 (J▸X4 y25 [.int .i64 0,.int .i64 0,.slice none 0 0,.int .i64 0,.slice none 0 0,.slice none 0 0] 62);have R:=J▸Y6;have L:=d.size;have hMz:=D.out.lt
    replace d:=d.trans (R.mono L)
    rw[<- J];have HBA:=U0 R;refine A8 g (I _ d) λhH=>?_;refine rq 7 λK g=>?_;refine t_ rfl 62 _ _ rfl (j:=0) rfl rfl D X7 (je rfl rfl rfl rfl rfl rfl) Y1 ?_;intro z9 F f;have E:Hid (RK b Z y25.heap.size cd m fa ta ra fc tc rc z9):=⟨HO,F,(HK.out.next (show _ by have:=HBA.out.size;have:=f.size;omega) (λp _ hl=>(f.block p (by omega)).trans (HBA.out.block p hl))).low hzB,d.trans (f.below L),L,HML⟩
   rotate_left
   focus
    go_simp;obtain⟨y26,J⟩:∃y':World,y'=y2.alloc (.cells #[.int .i64 0,.int .i64 0,.slice none 0 0,.int .i64 0,.slice none 0 0,.slice none 0 0] 62):=⟨_,rfl⟩;have D:=U0 (J▸X4 y2 [.int .i64 0,.int .i64 0,.slice none 0 0,.int .i64 0,.slice none 0 0,.slice none 0 0] 62);have R:=J▸Y6;have L:=d.size;have hMz:=D.out.lt
    replace d:=d.trans (R.mono L)
    rw[<- J]
    replace S1:=U0 (P6 S1 (R.mono (J8 _)))
    clear J R;refine A8 g (I.out _ d) λhH=>?_;clear g K;refine rq 5 λK g=>?_;go_simp;refine(HCB.out _ a1 k1 d S1.out).mono ?_;rintro e a8s⟨⟨cd,m,fa,fc,ta,tc,ra,rc,rfl,ho,hk,hml⟩,v⟩;have HO:=U0 ho;have HK:=U0 hk;have HML:=U0 hml;have hzB:=d.size
    replace d:=J5 d v
    replace D:=U0 (D.out.below v D.out.lt)
    go_simp;refine A8 g (I _ d) λhH=>?_;refine rq 7 λK g=>?_;refine t_ rfl 62 _ _ rfl (j:=0) rfl rfl D X7 (je rfl rfl rfl rfl rfl rfl) Y1 ?_;intro z9 F f;have E:Hid (RK b Z y2.heap.size cd m fa ta ra fc tc rc z9):=⟨HO,F,(HK.out.on f hMz).low hzB,d.trans (f.below L),L,HML⟩
   all_goals
    replace d:=d.trans (f.below L)
    refine A8 g (I.out _ d) λhH=>?_;clear g K;refine wdn ?_
    go_wp2_with fail
    go_meet
    exact⟨_,_,_,_,_,_,_,_,_,rfl,E⟩
  go_simp;obtain⟨y6,J⟩:∃y':World,y'=y.alloc (.cells #[.int .i64 0,.int .i64 0,.slice none 0 0,.int .i64 0,.slice none 0 0,.slice none 0 0] 62):=⟨_,rfl⟩;have D:=U0 (J▸X4 y [.int .i64 0,.int .i64 0,.slice none 0 0,.int .i64 0,.slice none 0 0,.slice none 0 0] 62);have R:=J▸Y6;have L:=d.size;have hMz:=D.out.lt
  replace d:=d.trans (R.mono L)
  rw[<- J];clear J R;refine A8 g (I.out _ d) λhH=>?_;clear g K;refine rq 2 λK g=>?_;go_simp;refine(HCA.out _ d).mono ?_;rintro e y62⟨⟨a1,k1,rfl,h1⟩,v⟩;have S1:=U0 h1
  replace d:=J5 d v
  replace D:=U0 (D.out.below v D.out.lt)
  replace hMz:=U9 hMz v.size
  go_simp;refine A8 g (I _ d) λhH=>?_;refine rq 5 λK g=>?_;go_simp;refine(HCB _ a1 k1 d S1).mono ?_;rintro e a8t⟨⟨cd,m,fa,fc,ta,tc,ra,rc,rfl,ho,hk,hml⟩,v⟩;have HO:=U0 ho;have HK:=U0 hk;have HML:=U0 hml;have hzB:=d.size
  replace d:=J5 d v
  replace D:=U0 (D.out.below v D.out.lt)
  go_simp;refine A8 g (I _ d) λhH=>?_;refine rq 7 λK g=>?_;refine t_ rfl 62 _ _ rfl (j:=0) rfl rfl D X7 (je rfl rfl rfl rfl rfl rfl) Y1 ?_;intro z9 F f;have E:Hid (RK b Z y.heap.size cd m fa ta ra fc tc rc z9):=⟨HO,F,(HK.out.on f hMz).low hzB,d.trans (f.below L),L,HML⟩
  replace d:=d.trans (f.below L)
  refine A8 g (I _ d) λhH=>?_;refine wdn ?_
  go_wp2_with fail
  go_meet
  exact⟨_,_,_,_,_,_,_,_,_,rfl,E⟩
 obtain⟨M,cd,m,fa,ta,ra,fc,tc,rc,rfl,E⟩:=hcut
 replace H:=U0 (H.out.call E.out.bw)
 replace l:=U0 (l.out.below E.out.bw hXZ)
 replace C:=U0 (C.out.mv (.below E.out.bw) (J8 _))
 have hMX:=U9 hXZ E.out.hM;have hE:=E.out.ml.e;have k5:wc.cell? ⟨w.heap.size,5,none⟩=some (.slice q.sa b.sf.length q.sc):=H.out.h0.cell 5;have k6:wc.cell? ⟨w.heap.size,6,none⟩=some (.slice q.la b.lo.length q.lc):=H.out.h0.cell 6;have k2:wc.cell? ⟨M,1,none⟩=some (.int .i64 m.ep):=E.out.cm.cell 1;have HU:=U0 (H.out.h0.cell 1);by_cases A:b.up=true
 ·have k1:=HU.out.trans (l7 (λx=>some (Value.bool x)) A)
  replace A:=U0 A
  go_upto_region 6 with fail
  go_wp2_with(first|(refine H8 l.out rfl 47 _ rfl (j:=0) (bsV b n) rfl rfl underlying47 rfl Y1 ?_)|(refine I7 rfl 47 _ _ rfl (j:=0) rfl rfl H.out.h1 X7 (Y5 rfl) Y1 ?_;intro zz cq N))
  exact Q7 (J7 (P:=prog) (ty:=47) rfl _ zz (w.heap.size+1) (bsV b n) _ rfl cq.blk underlying47 rfl Y1) rfl ⟨⟨true,b,n,HR,(by simp[OB,A.out]),HL,rfl,C.out.mv (.on N (.inl (by omega))) (by omega)⟩,H.out.bw.trans (N.below (by omega))⟩
 have k1:=HU.out.trans (l7 (λx=>some (Value.bool x)) (Ji.2 A))
 replace A:=U0 (Ji.2 A)
 have HRI:Hid (∀b',b'=Uj b m->OB RES b true b'):=λb' e=>by
  simp only[OB,A.out];exact⟨cd,m,E.out.out,e⟩
 by_cases Q:200<=m.ep
 ·have hg:=eq_true Q;have hN:Hid (Uj b m=b):=Y7 (λh=>by omega)
  go_upto_region 6 with fail
  go_wp2_with(first|(refine H8 l.out rfl 47 _ rfl (j:=0) (bsV b n) rfl rfl underlying47 rfl Y1 ?_)|(refine I7 rfl 47 _ _ rfl (j:=0) rfl rfl H.out.h1 X7 (Y5 rfl) Y1 ?_;intro zz cq N))
  exact Q7 (J7 (P:=prog) (ty:=47) rfl _ zz (w.heap.size+1) (bsV b n) _ rfl cq.blk underlying47 rfl Y1) rfl ⟨⟨true,b,n,HR,(HRI _ hN.out.symm),HL,rfl,C.out.mv (.on N (.inl (by omega))) (by omega)⟩,H.out.bw.trans (N.below (by omega))⟩
 have hg:=eq_false Q;by_cases hlen:1000<=b.sf.length+b.lo.length
 ·have hg2:((1000:Int)<=(b.sf.length:Int)+(b.lo.length:Int))=True:=eq_true (by omega);have hN:Hid (Uj b m=b):=Y7 (λh=>by omega)
  go_upto_region 6 with fail
  go_wp2_with(first|(refine H8 l.out rfl 47 _ rfl (j:=0) (bsV b n) rfl rfl underlying47 rfl Y1 ?_)|(refine I7 rfl 47 _ _ rfl (j:=0) rfl rfl H.out.h1 X7 (Y5 rfl) Y1 ?_;intro zz cq N))
  exact Q7 (J7 (P:=prog) (ty:=47) rfl _ zz (w.heap.size+1) (bsV b n) _ rfl cq.blk underlying47 rfl Y1) rfl ⟨⟨true,b,n,HR,(HRI _ hN.out.symm),HL,rfl,C.out.mv (.on N (.inl (by omega))) (by omega)⟩,H.out.bw.trans (N.below (by omega))⟩
 have hg2:((1000:Int)<=(b.sf.length:Int)+(b.lo.length:Int))=False:=eq_false (by omega)
 go_upto_region 7 with fail
 have hR':=U0 (show Uj b m={b with up:=true,ep:=m.ep+1,fs:=m.fs,s:=m.s,lo:=b.lo++[I4 (m_ (J9 (m.ep+1)))]} from L8 ⟨by omega,by omega⟩);have O:=U0 E.out.cm;have U:=U0 E.out.kp;have HML:=U0 E.out.ml;have HSM:=U0 E.out.out.1
 go_upto_region 8 with(refine Cc rfl 4 _ _ rfl (p:=1) rfl rfl Y1 l.out (show 1<15 by decide) ?_;intro z5 F f)
 replace H:=U0 (H.out.off f hX)
 replace C:=U0 (C.out.mv (.on f (.inr l.out.t)) (J8 _))
 replace O:=U0 (O.out.on f (by omega))
 replace U:=U0 (U.out.on f hXZ)
 replace l:Hid (Cl z5 X 47 (bsV {b with up:=true} n)):=F.out
 go_upto_region 9 with(first|(refine N8 O.out rfl 3 _ rfl (j:=1) rfl rfl Y1 ?_)|(refine Cc rfl 3 _ _ rfl (p:=3) rfl rfl Y1 l.out (show 3<15 by decide) ?_;intro z6 F f))
 replace H:=U0 (H.out.off f hX)
 replace C:=U0 (C.out.mv (.on f (.inr l.out.t)) (J8 _))
 replace O:=U0 (O.out.on f (by omega))
 replace U:=U0 (U.out.on f hXZ)
 replace l:Hid (Cl z6 X 47 (bsV {b with up:=true,ep:=m.ep+1} n)):=F.out
 go_upto_region 10 with(first|(refine H8 O.out rfl 40 _ rfl (j:=2) [.slice fa m.fs.length fc] rfl rfl underlying40 rfl Y1 ?_)|(refine I7 rfl 40 _ _ rfl (j:=7) rfl rfl l.out (show 7+1<=15 by decide) (Y5 rfl) Y1 ?_;intro z7 F f))
 replace H:=U0 (H.out.off f hX)
 replace C:=U0 (C.out.mv (.on f (.inr l.out.t)) (J8 _))
 replace O:=U0 (O.out.on f (by omega))
 replace U:=U0 (U.out.on f hXZ)
 replace l:Hid (Cl z7 X 47 (bsV {b with up:=true,ep:=m.ep+1,fs:=m.fs} {n with fa:=fa,fc:=fc})):=F
 go_upto_region 11 with(first|(refine H8 O.out rfl 43 _ rfl (j:=3) [.int .i64 m.s.wd,.slice ta m.s.ts.length tc,.slice ra m.s.rs.length rc] rfl rfl underlying43 rfl Y1 ?_)|(refine I7 rfl 43 _ _ rfl (j:=8) rfl rfl l.out (show 8+3<=15 by decide) (Y5 rfl) Y1 ?_;intro z8 F f))
 replace H:=U0 (H.out.off f hX)
 replace C:=U0 (C.out.mv (.on f (.inr l.out.t)) (J8 _))
 replace O:=U0 (O.out.on f (by omega))
 replace U:=U0 (U.out.on f hXZ)
 replace l:Hid (Cl z8 X 47 (bsV {b with up:=true,ep:=m.ep+1,fs:=m.fs,s:=m.s} {n with fa:=fa,fc:=fc,ta:=ta,tc:=tc,ra:=ra,rc:=rc})):=F
 have HL2:Hid (Ug {b with up:=true,ep:=m.ep+1,fs:=m.fs,s:=m.s,lo:=b.lo++[I4 (m_ (J9 (m.ep+1)))]} 1048576):=U0 (hR'.out▸fO HL HSM HML);have I:Hid (∀u,Bw z8 u->u.cell? ⟨X,6,none⟩=some (.slice n.la b.lo.length n.lc)/\u.cell? ⟨X,3,none⟩=some (.int .i64 (m.ep+1))):=λu A=>⟨(l.out.below A l.out.lt).cell 6,(l.out.below A l.out.lt).cell 3⟩;have hll:=HL.out.ll;have hd:Bw z8 z8.drew:=(G5 _ _).drew;refine Qd 11 (S:=λu=>u.cell? ⟨X,6,none⟩=some (.slice n.la b.lo.length n.lc)/\u.cell? ⟨X,3,none⟩=some (.int .i64 (m.ep+1))) Y1 (I _ hd) λhH=>?_
 iterate 2 refine AL ?_
 refine lq 2 hH ?_;refine AL ?_;refine lq 4 hH ?_;refine AL ?_
 try simp only[qq]
 refine uy 6 λK g=>?_;go_simp;refine(c22 (J9 (m.ep+1)) none 0 z8.drew ⟨J4 _,J4 _,⟨J4 _,J4 _,J4 _⟩,⟨J4 _,λi=>⟨J4 _,J4 _⟩⟩,J4 _⟩ (.inl rfl)).mono ?_;rintro e y1⟨⟨x,rfl,hx⟩,v⟩;obtain rfl:x=I4 (m_ (J9 (m.ep+1))):=by
  rcases hx with⟨_,h⟩|⟨h,_⟩
  ·exact h
  exact absurd (.inl ⟨m.ep+1,⟨by omega,by omega⟩,rfl⟩) h
 generalize I4 (m_ (J9 (m.ep+1)))=x at*;have b1:=hd.trans (v.mono X7);go_simp;refine A8 g (I _ b1) λhH=>?_;refine uy 7 λK g=>?_;go_simp;have HS:=U0 (X4 y1 [.string x] 9);have b2:=J5 b1 (Y6 (w:=y1) (o:=.cells #[.string x] 9));refine A8 g (I _ b2) λhH=>?_;generalize y1.alloc (.cells #[.string x] 9)=y2 at*;have W:=U0 (H.out.call b2);have C4:=U0 (l.out.below b2 l.out.lt);have Q4:=U0 (C.out.mv (.below b2) (J8 _));have K4:=U0 (U.out.below b2);refine uy 8 λK g=>?_;refine Ea rfl _ _ 22 rfl (w.heap.size+2) 9 1 underlying22 (Zc Y1) Z5 _ b.lo.length (b.lo.map .string) rfl Q4.out.lo _ 1 [.string x] rfl (.inr ⟨⟨y1.heap.size,0,none⟩,1,rfl,rfl,Ti HS⟩) (Y5 rfl) O0 W.out.hz ?_;intro v' w6 O6 g6 hv6;obtain⟨a6,c6,rfl⟩:=V9 O6;have H6:Hid (BX w (bsV b q) w6):=⟨(g6.block _ W.out.h0.lt (λe=>by have:=Z4 Q4.out.lo e.symm;omega)).trans W.out.h0,(g6.block _ W.out.h1.lt (λe=>by have:=Z4 Q4.out.lo e.symm;omega)).trans W.out.h1,W_ W.out.bw g6 W.out.bw.size (λk hk=>by have:=Z4 Q4.out.lo hk;omega),I8 W.out.hz g6.size⟩;have Y:Hid (Cl w6 X 47 (bsV {b with up:=true,ep:=m.ep+1,fs:=m.fs,s:=m.s} {n with fa:=fa,fc:=fc,ta:=ta,tc:=tc,ra:=ra,rc:=rc})):=(g6.block _ C4.out.lt (λe=>absurd (Z8 (N7 Q4.out.lo e.symm) C4.out.t) (by decide))).trans C4;refine A8 g ⟨Y.out.cell 6,Y.out.cell 3⟩ λhH=>?_;refine uy 9 λK g=>?_;go_simp;refine A8 g ⟨Y.out.cell 6,Y.out.cell 3⟩ λhH=>?_;refine AL ?_;refine iZ λK g=>?_;refine Gn rfl (Il 22 _ _ rfl (B:=X) (j:=6) rfl rfl ⟨_,Y.out.cell 6⟩ (Y.out.opn 6) Y1) ?_;have hs:=O_ w6 X 6 (.slice a6 (b.lo.length+1) c6);have C7:Hid (Cl (w6.setCell ⟨X,6,none⟩ (.slice a6 (b.lo.length+1) c6)) X 47 (bsV {b with up:=true,ep:=m.ep+1,fs:=m.fs,s:=m.s,lo:=b.lo++[x]} {n with fa:=fa,fc:=fc,ta:=ta,tc:=tc,ra:=ra,rc:=rc,la:=a6,lc:=c6})):=U0 (by
  have h:=Y.out.set 6 (.slice a6 (b.lo.length+1) c6);unfold bsV;rw[show(b.lo++[x]).length=b.lo.length+1 by simp];exact h)
 replace H6:=U0 (H6.out.off hs hX)
 have K7:=(K4.out.next g6.size (λp Q hl=>g6.block p hl (λe=>by have:=HLZ.out p e.symm;omega))).on hs hXZ;have HAT:=U0 (YU (fc:=fc) (tc:=tc) (rc:=rc) (e:=m.ep+1) Q4 K7.now.1 K7.now.2 (λp t hT ht Q=>(hs.block p (λe=>by subst e;exact ht (Z8 hT C4.out.t))).trans (g6.block p (Je hT) (λe=>Q e.symm))) (I5 O6 (λp Q=>hs.block p (λe=>by subst e;exact absurd (Z8 (N7 O6 Q) Y.out.t) (by decide)))));change K _ (w6.setCell ⟨X,6,none⟩ (.slice a6 (b.lo.length+1) c6));generalize w6.setCell ⟨X,6,none⟩ (.slice a6 (b.lo.length+1) c6)=w7 at*;refine g _ _ ?_
 try simp only[qq]
 refine ig Y1 ?_ _;generalize {b with up:=true,ep:=m.ep+1,fs:=m.fs,s:=m.s,lo:=b.lo++[x]}=b' at*;generalize {n with fa:=fa,fc:=fc,ta:=ta,tc:=tc,ra:=ra,rc:=rc,la:=a6,lc:=c6}=q2 at*
 go_wp2_with(refine H8 C7.out rfl 47 _ rfl (j:=0) (bsV b' q2) rfl rfl underlying47 rfl Y1 ?_)
 refine(c19 b' q2 w7 HL2 HAT).mono ?_;rintro e w8⟨⟨q3,rfl,hq⟩,v⟩;have hz7:=H6.out.hz
 replace H6:=U0 (H6.out.call v)
 have HQ3:=U0 hq
 go_wp2_with(refine I7 rfl 47 _ _ rfl (j:=0) rfl rfl H6.out.h1 X7 (Y5 rfl) Y1 ?_;intro zz cq N)
 exact Q7 (J7 (P:=prog) (ty:=47) rfl _ zz (w.heap.size+1) (bsV b' q3) _ rfl cq.blk underlying47 rfl Y1) rfl ⟨⟨true,b',q3,HR,HRI _ hR'.out.symm,HL2,rfl,HQ3.out.mv (.on N (.inl (by omega))) (by omega)⟩,H6.out.bw.trans (N.below (by omega))⟩
theorem nI{b d c:Bs}{r:Bool}(h:OB RES b r d)(k:OB RE b r c):c=d:=by
 unfold OB at h k;cases r
 ·exact k.trans h.symm
 by_cases a:b.up=true
 ·simp only[a,if_true]at h k;exact k.trans h.symm
 simp only[a,if_true]at h k;obtain⟨cd,m,o1,rfl⟩:=h;obtain⟨cd',m',o2,rfl⟩:=k;obtain⟨_,rfl⟩:=jL o1 o2;rfl
theorem c3(b:Bs)(q:Ba)(w:World)(hl:Ug b 9223372036854775807)(hv:G.Uo w)(Q:Pow w)(hat:Gh w b q):
 Calls prog 3 #[.agg (bsV b q).toArray] w λe w'=>e=.returned (.bool true)/\Bw w w':=by
 have O:=U0 hat;have HL0:=U0 hl;have HV:=U0 hv;have HP:=U0 Q;clear hat hl hv Q
 go_in
 go_upto_region 2 with fail
 have k:=U0 (X4 w (bsV b q) 35);have A:=U0 (Y6 (w:=w) (o:=.cells (bsV b q).toArray 35));generalize w.alloc (.cells (bsV b q).toArray 35)=V at*
 go_wp2_with(refine H8 k.out rfl 35 _ rfl (j:=0) (bsV b q) rfl rfl underlying35 rfl Y1 ?_)
 refine(c4 b q 1048576 V Z5 Z5 HL0.out (O.out.below A.out)).mono ?_;rintro e w1⟨⟨r0,rfl,hr⟩,a⟩
 replace k:=U0 (k.out.below a k.out.lt)
 replace A:=U0 (J5 A.out a)
 have HR:=U0 hr;clear hr a;by_cases hn:r0<0
 ·go_wp2;go_ret;exact⟨rfl,A.out⟩
 have D:=U0 (HR.out O0).1;have hsl:=(HR.out O0).2;clear HR HL0
 go_upto_region 5 with fail
 go_wp2_with(refine H8 k.out rfl 35 _ rfl (j:=0) (bsV b q) rfl rfl underlying35 rfl Y1 ?_)
 refine(c6 b q w1 D.out (O.out.below A.out)).mono ?_;rintro e w2⟨⟨q1,rfl,ha1,hc1,_⟩,a⟩;have H5:=U0 (c5 b q1 w2 D.out hsl hc1 ha1)
 replace k:=U0 (k.out.below a k.out.lt)
 replace A:=U0 (J5 A.out a)
 clear a ha1 hc1
 go_wp2_with fail
 refine H5.out.mono ?_;rintro e w3⟨⟨r,b',E,hvr,hri,hlf,rfl,hF⟩,a⟩;have VR:=U0 hvr;have RI:=U0 hri;have H:=U0 hlf;have A0:=U0 hF.at
 replace k:=U0 (k.out.below a k.out.lt)
 replace A:=U0 (J5 A.out a)
 clear a hri hvr hlf hF H5
 go_upto_region 6 with(refine I7 rfl 47 _ _ rfl (j:=0) rfl rfl (X4 w3 bz 47) X7 (Y5 rfl) Y1 ?_;intro z l y)
 have f:Hid (∀u,Bw z u->(Cl u w.heap.size 35 (bsV b q)/\Cl u w3.heap.size 47 (bsV b' E))/\Gh u b' E/\Bw w u):=by
  have bz:=Y6.trans (y.below X7);exact λu g=>⟨⟨(k.out.below bz k.out.lt).below g (U9 k.out.lt bz.size),l.below g l.lt⟩,(A0.out.below bz).below g,J5 (J5 A.out bz) g⟩
 clear l y k A A0
 go_wp2_with(refine H8 (f.out _ (G5 _ _)).1.1 rfl 35 _ rfl (j:=0) (bsV b q) rfl rfl underlying35 rfl Y1 ?_)
 refine(c6 b q z D.out (O.out.below (f.out _ (G5 _ _)).2.2)).mono ?_;rintro e I⟨⟨C,rfl,ha2,hc2,ho2⟩,a⟩
 go_upto_region 7 with(refine I7 rfl 47 _ _ rfl (j:=0) rfl rfl (X4 I bz 47) X7 (Y5 rfl) Y1 ?_;intro Z l y)
 obtain⟨vr2,lr2,vn2,ln2,hw2⟩:=a5b ho2;have i:Hid (∀u,Bw Z u->Cl u I.heap.size 47 (bsV b C)/\Gh u b C/\BW z.heap.size I.heap.size u b C vr2 lr2 vn2 ln2/\Bw z u):=by
  have bz:=Y6.trans (y.below X7);exact λu g=>⟨l.below g l.lt,(ha2.below bz).below g,(hw2.md bz).md g,J5 (J5 a bz) g⟩
 have hz4:=l.lt;have HC2:=U0 hc2;have hzw:=a.size;have a7c:=(i.out _ (G5 _ _)).2.2.2.size;clear l y ha2 hc2 ho2 a hw2
 go_wp2_with(refine H8 (i.out _ (G5 _ _)).1 rfl 47 _ rfl (j:=0) (bsV b C) rfl rfl underlying47 rfl Y1 ?_)
 refine(c7 b C Z D.out hsl HC2.out (HV.out.below (f.out _ (i.out _ (G5 _ _)).2.2.2).2.2) (Ir HP.out (f.out _ (i.out _ (G5 _ _)).2.2.2).2.2) (i.out _ (G5 _ _)).2.1).mono ?_;rintro e w5⟨⟨r2,d,x,hv2,hr2,rfl,hF⟩,a⟩;obtain rfl:r=r2:=qK VR.out hv2;obtain rfl:=nI RI.out hr2
 go_upto_region 8 with(refine I7 rfl 47 _ _ rfl (j:=0) rfl rfl (X4 w5 bz 47) X7 (Y5 rfl) Y1 ?_;intro z5 l y)
 have bz5:=Y6.trans (y.below X7);have W:=U0 (J5 a bz5);have c:=U0 l;have n:=U0 (hF.mv (.below bz5) (J8 _));have hz5:=a.size;clear l y a bz5 hF hv2 hr2
 go_wp2_with(first|(refine H8 c.out rfl 47 _ rfl (j:=0) (bsV d x) rfl rfl underlying47 rfl Y1 ?_)|(refine H8 (f.out _ (i.out _ W.out).2.2.2).1.2 rfl 47 _ rfl (j:=0) (bsV d E) rfl rfl underlying47 rfl Y1 ?_))
 refine(c8 d x E z5 H.out n.out.at (f.out _ (i.out _ W.out).2.2.2).2.1).mono ?_;rintro e P⟨rfl,a⟩;have s:=U0 (J5 W.out a)
 replace c:=U0 (c.out.below a c.out.lt)
 replace n:=U0 (n.out.mv (.below a) (J8 _))
 clear a W
 go_upto_region 10 with fail
 have hd:Bw P P.drew:=(G5 _ _).drew;have U:Hid (∀u,Bw P u->Cl u w.heap.size 35 (bsV b q)/\Cl u I.heap.size 47 (bsV b C)):=λu g=>have h:=i.out u (J5 s.out g);⟨(f.out u h.2.2.2).1.1,h.1⟩
 refine FI U hd Y1 λhH=>?_;refine tq 0 hH ?_ (hv:=λu g=>d_ 47 _ rfl (B:=I.heap.size) (j:=0) (cs:=bsV b C) rfl (λq v e=>by rw[o9];exact(g.2.cell q).trans e) underlying47 rfl Y1)
 try simp only[qq]
 refine tq 1 hH ?_ (hv:=λu g=>d_ 35 _ rfl (B:=w.heap.size) (j:=0) (cs:=bsV b q) rfl (λq v e=>by rw[o9];exact(g.1.cell q).trans e) underlying35 rfl Y1)
 try simp only[qq]
 refine rq 2 λK J=>?_;go_simp;refine(c6 b q P.drew D.out (O.out.below (f.out _ (i.out _ (J5 s.out hd)).2.2.2).2.2)).mono ?_;rintro e w7⟨⟨q3,rfl,ha3,_⟩,a⟩;have R:=hd.trans (a.mono X7);have A7:=U0 ha3;clear a ha3
 go_wp2_with fail
 refine A8 J (U.out _ R) λhH=>?_;clear J K;refine rq 3 λK J=>?_;go_simp;refine(c8 b C q3 w7 D.out (i.out _ (J5 s.out R)).2.1 A7.out).mono ?_;rintro e w8⟨rfl,a⟩;have L:=J5 R a;clear a
 go_wp2_with fail
 refine A8 J (U.out _ L) λhH=>?_;clear J K;refine p_ 4 ?_;refine wdn ?_
 replace s:=U0 (J5 s.out L)
 replace c:=U0 (c.out.below L c.out.lt)
 replace n:=U0 (n.out.mv (.below L) (J8 _))
 clear L R hd U A7 hH
 go_upto_region 13 with fail
 go_wp2_with(refine H8 (i.out _ s.out).1 rfl 47 _ rfl (j:=0) (bsV b C) rfl rfl underlying47 rfl Y1 ?_)
 refine(m9 z.heap.size I.heap.size b C vr2 lr2 vn2 ln2 w8 hzw (by have:=s.out.size;omega) D.out (i.out _ s.out).2.2.1).mono ?_;rintro e w9⟨⟨rfl,hX,_⟩,m⟩;generalize bX b lr2 ln2=X at*;have hX0:decide (X<0)=false:=by simp;omega
 have BX:=U0 ((i.out _ s.out).2.2.2.trans (m.below X7 (i.out _ s.out).2.2.2.size))
 replace c:Hid (Cl w9 w5.heap.size 47 (bsV d x)):=(m.block _ c.out.lt (.inr (by omega))).trans c.out
 replace n:=U0 (n.out.mv (u:=w9) ⟨m.size,λp t hT _ Q=>m.block p (Je hT) (.inr (by omega))⟩ (J8 _))
 have s9:=I8 s.out.size m.size;clear m s hX i
 go_upto_region 14 with fail
 go_wp2_with(first|(refine xw rfl 47 _ rfl rfl c.out underlying47 rfl Y1 ?_)|(refine xw rfl 47 _ rfl rfl (f.out _ BX.out).1.2 underlying47 rfl Y1 ?_))
 refine(c8 d x E w9 H.out n.out.at (f.out _ BX.out).2.1).mono ?_;rintro e w10⟨rfl,a⟩
 replace BX:=U0 (J5 BX.out a)
 replace c:=U0 (c.out.below a c.out.lt)
 replace n:=U0 (n.out.mv (.below a) (J8 _))
 have s10:=I8 s9 a.size;clear a s9
 go_upto_region 17 with fail
 go_wp2_with(refine H8 c.out rfl 47 _ rfl (j:=0) (bsV d x) rfl rfl underlying47 rfl Y1 ?_)
 obtain⟨vr,vn,hw,hap⟩:=a1S n.out H.out;refine(m9 Z.heap.size w10.heap.size d x vr (lsR d) vn (lsN d) w10 s10 (J8 _) H.out hw).mono ?_;rintro e w11⟨⟨rfl,hX,hbm⟩,m⟩
 replace c:Hid (Cl w11 w5.heap.size 47 (bsV d x)):=(m.ty _ _ _ c.out (by decide)).trans c.out
 replace BX:=U0 (BX.out.trans (m.below a7c BX.out.size))
 have N:=U0 (hbm hap);clear m hbm hap hw n
 go_upto_region 19 with fail
 go_wp2_with(refine H8 c.out rfl 47 _ rfl (j:=0) (bsV d x) rfl rfl underlying47 rfl Y1 ?_)
 refine(h10 d x vr (lsR d) vn (lsN d) w11 H.out N.out).mono ?_;rintro e w12⟨rfl,a⟩
 replace BX:=U0 (J5 BX.out a)
 replace c:=U0 (c.out.below a c.out.lt)
 replace N:=U0 (N.out.below a)
 have HX9:=U0 (λu (h:Bw w12 u)=>h10 d x vr (lsR d) vn (lsN d) u H.out (N.out.below h));generalize bX d (lsR d) (lsN d)=Y at*;clear a N;have Q:decide (Y<0)=false:=by simp;omega
 go_upto_region 24 with fail
 go_wp2_with(refine H8 (f.out _ BX.out).1.1 rfl 35 _ rfl (j:=0) (bsV b q) rfl rfl underlying35 rfl Y1 ?_)
 refine(c6 b q w12 D.out (O.out.below (f.out _ BX.out).2.2)).mono ?_;rintro e w13⟨⟨q4,rfl,ha4,hc4,_⟩,a⟩
 replace BX:=U0 (J5 BX.out a)
 replace c:=U0 (c.out.below a c.out.lt)
 have F:=U0 a;clear a;have H7:=U0 (c7 b q4 w13 D.out hsl hc4 (HV.out.below (f.out _ BX.out).2.2) (Ir HP.out (f.out _ BX.out).2.2) ha4);clear ha4 hc4
 go_wp2_with fail
 refine H7.out.mono ?_;rintro e w14⟨⟨r3,S,q9,hv3,hr3,rfl,hF⟩,a⟩;obtain rfl:r=r3:=qK VR.out hv3;obtain rfl:=nI RI.out hr3;have A9:=U0 hF.at
 replace BX:=U0 (J5 BX.out a)
 replace c:=U0 (c.out.below a c.out.lt)
 replace F:=U0 (J5 F.out a)
 clear a hF hr3 hv3 H7
 go_upto_region 25 with(refine I7 rfl 47 _ _ rfl (j:=0) rfl rfl (X4 w14 bz 47) X7 (Y5 rfl) Y1 ?_;intro z9 l y)
 have a:=Y6.trans (y.below X7)
 replace A9:=U0 (A9.out.below a)
 have C9:=U0 l
 replace BX:=U0 (J5 BX.out a)
 replace c:=U0 (c.out.below a c.out.lt)
 replace F:=U0 (J5 F.out a)
 clear a l y
 go_wp2_with(first|(refine H8 C9.out rfl 47 _ rfl (j:=0) (bsV S q9) rfl rfl underlying47 rfl Y1 ?_)|(refine H8 (f.out _ BX.out).1.2 rfl 47 _ rfl (j:=0) (bsV S E) rfl rfl underlying47 rfl Y1 ?_))
 refine(c8 S q9 E z9 H.out A9.out (f.out _ BX.out).2.1).mono ?_;rintro e w15⟨rfl,a⟩
 replace BX:=U0 (J5 BX.out a)
 replace c:=U0 (c.out.below a c.out.lt)
 replace F:=U0 (J5 F.out a)
 clear a
 go_upto_region 28 with fail
 go_wp2_with(refine H8 c.out rfl 47 _ rfl (j:=0) (bsV S x) rfl rfl underlying47 rfl Y1 ?_)
 refine(HX9.out w15 F.out).mono ?_;rintro e w16⟨rfl,a⟩
 replace BX:=U0 (J5 BX.out a)
 clear a;go_wp2;go_ret;exact⟨rfl,(f.out _ BX.out).2.2⟩
