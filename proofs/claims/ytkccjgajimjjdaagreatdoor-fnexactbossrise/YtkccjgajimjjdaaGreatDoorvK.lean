import Derived.Test.YtkccjgajimjjdaaGreatDoorvG
set_option linter.unusedVariables false
set_option maxHeartbeats 8000000
set_option maxRecDepth 100000
namespace Go.Proofs.YtkccjgajimjjdaaGreatDoor
open Proofs.Tryz Go.RowKit
theorem Nb(q:Nat)(h:q<1048577):IntKind.i64.wrap (q:Int)=(q:Int):=by
 have h1:(q:Int) % 2 ^ 64=q:=O0;simp only[IntKind.wrap,IntKind.bits,IntKind.signed,h1];rw[Y7 Q8]
theorem a4L(ta ra:OA)(tc rc:Nat)(s:St)(w:World)(hs:s.le 1048576)(hat:Ef w ta ra s):
 Calls prog 177 #[.agg #[.int .i64 s.wd,.slice ta s.ts.length tc,.slice ra s.rs.length rc]] w λe w'=>Rb (Bh s) e/\Bw w w':=by
 have HS:=U0 hs;obtain⟨P,Z,hct⟩:=La hat.1;have HT:=U0 hct;obtain⟨br,orr,hcr⟩:=Gf hat.2;have HRc:=U0 hcr;have l:=hs.1.1;have hmm:=hs.2.1;clear hs hat hct hcr;obtain⟨f,p⟩:∃f,f=(w.alloc (.cells #[vI s.wd,vL ta s.ts.length tc,vL ra s.rs.length rc] 43)):=⟨_,rfl⟩;have HA0:=U0 p;have H:Bw w f:=by rw[p];exact Y6
 have hAs:f.heap.size=w.heap.size+1:=by rw[p];simp
 have b0:f.cell? ⟨w.heap.size,0,none⟩=some (vI s.wd):=by rw[p];simp[go_sem]
 have b1:f.cell? ⟨w.heap.size,1,none⟩=some (vL ta s.ts.length tc):=by rw[p];simp[go_sem]
 have b2:f.cell? ⟨w.heap.size,2,none⟩=some (vL ra s.rs.length rc):=by rw[p];simp[go_sem]
 clear p;by_cases hW:1<=s.wd/\s.wd<=8
 ·have hd:decide (1<=s.wd/\s.wd<=8)=true:=by simpa using hW
  have HW:=U0 hW;by_cases a6i:300<s.ts.length
  ·have a:Hid (¬Bh s):=λh=>by have:=h.2.1.1;omega
   go_in
   go_wp2_with fail
   refine(QV _ _).mono ?_;rintro e w'⟨rfl,rfl⟩;rw[hd];go_wp2;go_ret;exact⟨X5 a,HA0.out▸H⟩
  by_cases a6B:150<s.rs.length
  ·have a:Hid (¬Bh s):=λh=>by have:=h.2.2.1;omega
   go_in
   go_wp2_with fail
   refine(QV _ _).mono ?_;rintro e w'⟨rfl,rfl⟩;rw[hd];go_wp2;go_ret;exact⟨X5 a,HA0.out▸H⟩
  go_in
  go_wp2_with fail
  refine(QV _ _).mono ?_;rintro e w'⟨rfl,hw'⟩;obtain rfl:=hw';rw[hd];go_wp2;go_loopw[3] (λi wr=>∃(k:Nat),k<=s.ts.length/\i=.int .i64 k/\Hid (∀j,j<k->StepT s.ts s.wd j)/\Below (w.heap.size+1) f wr) (λi _=>s.ts.length-(RowKit.intOf i).toNat);exact⟨0,J4 _,rfl,λj h=>absurd h (y9 _),by rw[HA0.out];exact G5 _ _⟩;obtain⟨k,hk,rfl,D,hx⟩:=hrel;have n:=H.trans (hx.mono O0);have L:w.heap.size+1<=wr.heap.size:=by have:=hx.size;omega
  have Q:=(hx.cell E5).trans b0;have a1:=(hx.cell E5).trans b1;have a2:=(hx.cell E5).trans b2;by_cases d:k<s.ts.length
  ·obtain⟨ha,F,E⟩:=Jd HT.out d;subst ha;have HCL:=U0 E;have g0:=(n.cell (by exact F)).trans (E k d);have z:(s.ts.getD k ByteArray.empty).size<=1048700:=by have:=HS.out.1.2 k;omega
   have W:Hid (StepT s.ts s.wd k↔(∃c t,pF (s.ts.getD k ByteArray.empty).data.toList c t true)/\(k=0\/Op.bytesLess (G7 (s.ts.getD (k-1) ByteArray.empty) s.wd).toList (G7 (s.ts.getD k ByteArray.empty) s.wd).toList=true)):=Iff.rfl;have V:Hid (∃x,x=s.ts.getD k ByteArray.empty):=⟨_,rfl⟩;obtain⟨x,A⟩:=V.out;rw[<- A]at g0 z W;clear A V E
   go_wp2_with fail
   refine(c218 x _ z).mono ?_;rintro e w2⟨⟨c,t,ok,rfl,hr,_⟩,hb2⟩;have hfl:=sU hr;have HFL:=U0 hfl;clear hr hfl;have B:Below (w.heap.size+1) f (w2.alloc (.cells #[vI c,vS (I4 t)] 72)):=(hx.trans (hb2.mono L)).alloc (I8 L hb2.size) _;have hA2:=H.trans (B.mono O0);clear hb2
   go_wp2_with fail
   generalize a7g:w2.alloc (.cells #[vI c,vS (I4 t)] 72)=R at*;clear a7g;cases ok
   ·have a:Hid (¬Bh s):=λh=>by have:=HFL.out.2 ((W.out.1 (h.2.1.2 k d)).1);cases this
    refine wp_region_held_drew (S:=(λ_=>True)) Y1 ?_ λhHeld=>?_
    · ((try dsimp only);(first|done|trivial))
    iterate 26 refine sq ?_
    refine wdn ?_;clear hHeld;go_wp2;go_ret;exact⟨X5 a,hA2.drew⟩
   cases k with
   | zero=>
    have o:Hid (∀j,j<0+1->StepT s.ts s.wd j):=λj hj=>by
     obtain rfl:j=0:=O0;exact W.out.2 ⟨HFL.out.1 rfl,.inl rfl⟩
    refine wp_region_held_drew (S:=(λ_=>True)) Y1 ?_ λhHeld=>?_
    · ((try dsimp only);(first|done|trivial))
    iterate 26 refine sq ?_
    refine wdn ?_;clear hHeld;go_wp2;go_roundw;exact⟨0+1,O0,by go_num,o,B.drew⟩;exact Z9
   | succ q=>
    have hW2:w.heap.size+1<=R.heap.size:=by have:=B.size;omega
    have hz0:w.heap.size<R.heap.size:=O0;have hzb:P<R.heap.size:=O0;have k0:=(B.cell E5).trans b0;have k1:=(B.cell E5).trans b1;have k2:=(hA2.cell (by exact F)).trans (HCL q O0);have k3':=(hA2.cell (by exact F)).trans (HCL.out (q+1) d);have hys:(s.ts.getD q ByteArray.empty).size<=1048700:=by have:=HS.out.1.2 q;omega
    have hge:s.ts.getD (q+1) ByteArray.empty=x:=by
     have e1:=(n.cell (by exact F)).trans (HCL.out (q+1) d);rw[g0]at e1;simpa using e1.symm
    have k3:R.cell? ⟨P,Z+(q+1),none⟩=some (vS x):=by rw[k3',hge]
    have a6C:Hid (StepT s.ts s.wd (q+1)↔(∃c t,pF x.data.toList c t true)/\(q+1=0\/Op.bytesLess (G7 (s.ts.getD q ByteArray.empty) s.wd).toList (G7 x s.wd).toList=true)):=W.out;have U:Hid (∃y,y=s.ts.getD q ByteArray.empty):=⟨_,rfl⟩;obtain⟨y,v⟩:=U.out;rw[<- v]at k2 hys a6C;have C:q<s.ts.length:=O0;have hq0:0<=(q:Int)+1:=O0;have hq1:(q:Int)+1<(s.ts.length:Int):=O0;have hwq:=Nb q O0;have a7Y:=Nb (q+1) O0;have hqq:((q+1:Nat):Int)-1=(q:Int):=O0;clear v U k3' hge g0 W Q a1 a2;cases hy:Op.bytesLess (G7 y s.wd).toList (G7 x s.wd).toList
    all_goals
     refine wp_region_held_drew (S:=(λu=>u.cell? ⟨w.heap.size,0,none⟩=some (vI s.wd)/\u.cell? ⟨w.heap.size,1,none⟩=some (vL (some ⟨P,Z,none⟩) s.ts.length tc)/\u.cell? ⟨P,Z+q,none⟩=some (vS y)/\u.cell? ⟨P,Z+(q+1),none⟩=some (vS x))) Y1 ?_ λhHeld=>?_
     · ((try dsimp only);go_keep)
     refine p_ 0 ?_;refine p_ 1 ?_;refine p_ 2 ?_;refine p_ 3 ?_;refine p_ 4 ?_;refine p_ 5 ?_;refine p_ 6 ?_;refine p_ 7 ?_;refine p_ 8 ?_;refine p_ 9 ?_;refine p_ 10 ?_;refine p_ 11 ?_;refine p_ 12 ?_;refine p_ 13 ?_;refine p_ 15 ?_;refine p_ 16 ?_;refine p_ 17 ?_;refine p_ 18 ?_;refine p_ 19 ?_;refine p_ 20 ?_;refine p_ 21 ?_;refine rq 14 λK b=>?_;go_simp;refine(lC y s.wd _ hys).mono ?_;rintro e w3⟨rfl,hb3⟩;have Y:Hid (Bw R w3):=(G5 _ _).drew.trans hb3;have p30:=(Y.out.cell (by exact hz0)).trans k0;have p31:=(Y.out.cell (by exact hz0)).trans k1;have p32:=(Y.out.cell (by exact hzb)).trans k2;have p33:=(Y.out.cell (by exact hzb)).trans k3
     go_wp2_with fail
     clear hHeld;refine xU b λhHeld=>?_;clear b K;refine rq 22 λK b=>?_;go_simp;refine(lC x s.wd _ z).mono ?_;rintro e w4⟨rfl,hb4⟩;have J:=U0 (J5 Y hb4);have p40:=(J.out.cell (by exact hz0)).trans k0;have p41:=(J.out.cell (by exact hz0)).trans k1;have p42:=(J.out.cell (by exact hzb)).trans k2;have p43:=(J.out.cell (by exact hzb)).trans k3
     go_wp2_with fail
     clear hHeld;refine xU b λhHeld=>?_;clear b K
     iterate 3 refine sq ?_
     refine wdn ?_;clear hHeld
    ·have a:Hid (¬Bh s):=λh=>by
      have:=(a6C.out.1 (h.2.1.2 (q+1) d)).2;rcases this with h1|h1
      ·omega
      rw[hy]at h1;cases h1
     have hB4:=hA2.trans (J.out.mono O0);go_wp2;go_ret;exact⟨X5 a,hB4⟩
    have o:Hid (∀j,j<q+1+1->StepT s.ts s.wd j):=λj hj=>by
     rcases D8 j (q+1)with h|h
     ·exact D j h
     obtain rfl:j=q+1:=O0;exact a6C.out.2 ⟨HFL.out.1 trivial,.inr hy⟩
    have hx4:=B.trans (J.out.mono hW2);go_wp2;go_roundw;exact⟨q+1+1,O0,by go_num,o,hx4⟩;exact Z9
  have HTX:Hid (sK s.ts s.wd):=⟨O0,λi hi=>D.out i O0⟩;clear D
  go_wp2_with fail
  clear Q a1 a2 n L;go_loopw[6] (λi wr=>∃(k:Nat),k<=s.rs.length/\i=.int .i64 k/\Hid (∀j,j<k->RG s.wd (s.rs.getD j h_))/\Below (w.heap.size+1) f wr) (λi _=>s.rs.length-(RowKit.intOf i).toNat);exact⟨0,J4 _,rfl,λj h=>absurd h (y9 _),hx⟩;clear hx;obtain⟨k,hk,rfl,D,hx⟩:=hrel;obtain⟨wq,hwq⟩:∃wq,wq=wr:=⟨_,rfl⟩;subst hwq;have n:=H.trans (hx.mono O0);have L:w.heap.size+1<=wq.heap.size:=by have:=hx.size;omega
  have Q:=(hx.cell E5).trans b0;have a2:=(hx.cell E5).trans b2;by_cases d:k<s.rs.length
  ·obtain⟨ha,F,E⟩:=Jd HRc.out d;subst ha;obtain⟨ai,r,e0,e1,e2,e3⟩:=(E k d).below F n;have z:=HS.out.2.2 k;have V:Hid (∃x,x=s.rs.getD k h_):=⟨_,rfl⟩;obtain⟨x,A⟩:=V.out;rw[<- A]at e0 e1 e2 e3 z;have HX:=U0 A;have HGL:=U0 e3;obtain⟨x1,x2,x3,x4⟩:=z;have HX3:=U0 x3;clear A V E e3 x3;have X:Hid (¬RG s.wd x->¬Bh s):=λl h=>l (HX.out▸h.2.2.2 k d);have hAq:Bw wq (wq.alloc (.cells #[vS x.key,vL ai x.gs.length r,vS x.out] 162)):=Y6;have hBq:Bw w (wq.alloc (.cells #[vS x.key,vL ai x.gs.length r,vS x.out] 162)):=n.alloc n.size _;have a0':=past (by show w.heap.size<wq.heap.size;omega) Q;by_cases h1:x.key.size<=321
   ·by_cases h2:(x.out.size:Int)=s.wd
    ·by_cases h3:x.gs.length<=15
     ·have HH:Hid (x.key.size<=321/\(x.out.size:Int)=s.wd/\x.gs.length<=15):=⟨h1,h2,h3⟩;go_wp2;go_loopw[8] (λi wr=>∃(q:Nat),q<=x.gs.length/\i=.int .i64 q/\Hid (∀j,j<q->a0v s.wd (x.gs.getD j zh))/\Below (wq.heap.size+1) (wq.alloc (.cells #[.string x.key,.slice ai x.gs.length r,.string x.out] 162)) wr) (λi _=>x.gs.length-(RowKit.intOf i).toNat);exact⟨0,J4 _,rfl,λj h=>absurd h (y9 _),G5 _ _⟩;obtain⟨q,hq,rfl,hdg,O⟩:=hrel;have hBg:=hBq.trans (O.mono O0);have hqg:=hAq.trans (O.mono O0);have hzg:wq.heap.size+1<=wr.heap.size:=by have:=O.size;simpa using this
      have k0:=(hqg.cell (by show w.heap.size<wq.heap.size;omega)).trans Q;have k1:wr.cell? ⟨wq.heap.size,1,none⟩=some (vL ai x.gs.length r):=(O.cell E5).trans (by simp[go_sem]);by_cases C:q<x.gs.length
      ·obtain⟨m,g,hci⟩:=Ai (I9 HGL.out hqg);obtain⟨hai,a7Z,hgc⟩:=Jd hci C;subst hai;have g1:=(hgc q C).2.1;have g2:=(hgc q C).2.2;have a7h:=(HX3 q).1;have U:Hid (∃y,y=x.gs.getD q zh):=⟨_,rfl⟩;obtain⟨y,v⟩:=U.out;rw[<- v]at g1 g2 a7h;have HY:=U0 v;have hyl:y.tl.size<=1048700:=O0;clear v U hgc;cases l:X6 y.tl.data.toList
       ·have a:Hid (¬Bh s):=X.out λh=>by have:=(h.2 q C).1;rw[<- HY.out,l]at this;cases this
        have I:=VO y.tl;rw[l]at I
        go_wp2_with fail
        refine wp_region_held_drew (S:=(λu=>u.cell? ⟨w.heap.size,0,none⟩=some (vI s.wd)/\u.cell? ⟨wq.heap.size,1,none⟩=some (vL (some ⟨m,g,none⟩) x.gs.length r)/\u.cell? ⟨m,g+q*3+1,none⟩=some (vS y.tl)/\u.cell? ⟨m,g+q*3+2,none⟩=some (vS y.ar))) Y1 ?_ λhHeld=>?_
        · ((try dsimp only);go_keep)
        iterate 6 refine sq ?_
        refine rq 6 λK b=>?_;go_simp;refine(I _ hyl).mono ?_;rintro e wz⟨rfl,N⟩;obtain rfl:=N
        go_wp2_with fail
        clear hHeld;refine xU b λhHeld=>?_;clear b K
        iterate 13 refine sq ?_
        refine wdn ?_;clear hHeld;go_wp2;go_ret;exact⟨X5 a,hBg.drew⟩
       have I:=VO y.tl;rw[l]at I;by_cases hw:(y.ar.size:Int)=s.wd
       ·have o:Hid (∀j,j<q+1->a0v s.wd (x.gs.getD j zh)):=λj hj=>by
         rcases D8 j q with h|h
         ·exact hdg j h
         obtain rfl:j=q:=O0;rw[<- HY.out];exact⟨l,hw⟩
        have hw':((y.ar.size:Int) !=s.wd)=false:=by simpa using hw
        clear l
        go_wp2_with fail
        refine wp_region_held_drew (S:=(λu=>u.cell? ⟨w.heap.size,0,none⟩=some (vI s.wd)/\u.cell? ⟨wq.heap.size,1,none⟩=some (vL (some ⟨m,g,none⟩) x.gs.length r)/\u.cell? ⟨m,g+q*3+1,none⟩=some (vS y.tl)/\u.cell? ⟨m,g+q*3+2,none⟩=some (vS y.ar))) Y1 ?_ λhHeld=>?_
        · ((try dsimp only);go_keep)
        iterate 6 refine sq ?_
        refine rq 6 λK b=>?_;go_simp;refine(I _ hyl).mono ?_;rintro e wz⟨rfl,N⟩;obtain rfl:=N
        go_wp2_with fail
        clear hHeld;refine xU b λhHeld=>?_;clear b K
        iterate 13 refine sq ?_
        refine wdn ?_;clear hHeld;go_wp2;go_roundw;exact⟨q+1,O0,by go_num,o,O.drew⟩;exact Z9
       have a:=U0 (X.out λh=>hw (by have:=(h.2 q C).2;rw[<- HY.out]at this;exact this));have hw':((y.ar.size:Int) !=s.wd)=true:=by simpa using hw
       have hw2:((y.ar.size:Int)==s.wd)=false:=by simpa using hw
       clear l
       go_wp2_with fail
       refine wp_region_held_drew (S:=(λu=>u.cell? ⟨w.heap.size,0,none⟩=some (vI s.wd)/\u.cell? ⟨wq.heap.size,1,none⟩=some (vL (some ⟨m,g,none⟩) x.gs.length r)/\u.cell? ⟨m,g+q*3+1,none⟩=some (vS y.tl)/\u.cell? ⟨m,g+q*3+2,none⟩=some (vS y.ar))) Y1 ?_ λhHeld=>?_
       · ((try dsimp only);go_keep)
       iterate 6 refine sq ?_
       refine rq 6 λK b=>?_;go_simp;refine(I _ hyl).mono ?_;rintro e wz⟨rfl,N⟩;obtain rfl:=N
       go_wp2_with fail
       clear hHeld;refine xU b λhHeld=>?_;clear b K
       iterate 13 refine sq ?_
       refine wdn ?_;clear hHeld;go_wp2;go_ret;exact⟨X5 a,hBg.drew⟩
      have o:Hid (∀j,j<k+1->RG s.wd (s.rs.getD j h_)):=λj hj=>by
       rcases D8 j k with h|h
       ·exact D j h
       obtain rfl:j=k:=O0;rw[<- HX.out];exact⟨HH.out,λi hi=>hdg.out i O0⟩
      have hxg:=hx.trans (hqg.mono L);go_wp2;go_roundw;exact⟨k+1,O0,by go_num,o,hxg⟩;exact Z9
     have a:=U0 (X.out λh=>h3 h.1.2.2);have h3':15<x.gs.length:=O0;go_wp2;go_ret;exact⟨X5 a,hBq⟩
    have a:=U0 (X.out λh=>h2 h.1.2.1);have h2':((x.out.size:Int) !=s.wd)=true:=by simpa using h2
    have a8a:((x.out.size:Int)==s.wd)=false:=by simpa using h2
    go_wp2;go_ret;exact⟨X5 a,hBq⟩
   have a:=U0 (X.out λh=>h1 h.1.1);go_wp2;go_ret;exact⟨X5 a,hBq⟩
  have a:Hid (Bh s):=⟨HW,HTX,O0,λi hi=>D.out i O0⟩;go_wp2;go_ret;exact⟨J_ a,n⟩
 have hd:decide (1<=s.wd/\s.wd<=8)=false:=by simpa using hW
 have a:Hid (¬Bh s):=λh=>hW h.1
 go_in
 go_wp2_with fail
 refine(QV _ _).mono ?_;rintro e w'⟨rfl,rfl⟩;rw[hd];go_wp2;go_ret;exact⟨X5 a,HA0.out▸H⟩
theorem a3W(x:G3)(l:Int)(w:World)(b:x.le 9223372036854775807)(h0:0<=l)(h1:l<=1048576):
 Calls prog 216 #[.agg #[.bool x.nm,.string x.tl,.string x.ar],.int .i64 l] w λe w'=>(∃r:Int,e=.returned (.int .i64 r)/\(0<=r->x.le 1048576/\r<=l))/\Bw w w':=by
 obtain⟨s2,s3⟩:=b;have a:Hid (∀r:Int,(0<=r->((x.tl.size:Int)<=l/\(x.ar.size:Int)<=l/\r<=l))->(0<=r->x.le 1048576/\r<=l)):=λr h g=>by
  have:=h g;exact⟨⟨O0,O0⟩,O0⟩
 by_cases h':l<x.tl.size
 ·go_in
  go_wp2;go_ret;exact⟨⟨-1,rfl,a _ λh=>O0⟩,Y6⟩
 by_cases h'':l<x.tl.size+x.ar.size
 ·go_in
  go_wp2;go_ret;exact⟨⟨-1,rfl,a _ λh=>O0⟩,Y6⟩
 go_in
 go_wp2;go_ret;exact⟨⟨_,rfl,a _ λh=>O0⟩,Y6⟩
theorem iH{is:List G3}{B:Nat}(h:∀i,i<is.length->(is.getD i zh).le B)(i:Nat):(is.getD i zh).le B:=by
 rcases D8 i is.length with a|a
 ·exact h i a
 have e:is.getD i zh=zh:=by simp[List.getD,Zb a]
 rw[e];exact⟨J4 _,J4 _⟩
theorem a4w(a:OA)(cap:Nat)(is:List G3)(l:Int)(w:World)(h0:0<=l)(h1:l<=1048576)(u:∀i,(is.getD i zh).le 9223372036854775807)(hl:is.length<=9223372036854775807)(z:R_ w a is):
 Calls prog 169 #[.slice a is.length cap,.int .i64 l] w λe w'=>(∃r:Int,e=.returned (.int .i64 r)/\(0<=r->is.length<=1048576/\(∀i,(is.getD i zh).le 1048576)/\r<=l-is.length))/\Bw w w':=by
 obtain⟨b,off,hc⟩:=Ai z;have B:=U0 hc;by_cases hbig:l<is.length
 ·go_in
  go_wp2;go_ret;exact⟨⟨-1,rfl,λh=>O0⟩,G5 _ _⟩
 go_in
 go_wp2;go_loopw[1,5] (λs i wr=>∃(k:Nat)(r:Int),k<=is.length/\i=.int .i64 k/\s=.int .i64 r/\0<=r/\r<=l-is.length/\Hid (∀i,i<k->(is.getD i zh).le 1048576)/\Below w.heap.size w wr) (λ_ i _=>is.length-(RowKit.intOf i).toNat);exact⟨0,_,J4 _,rfl,rfl,O0,O0,λi h=>absurd h (y9 _),G5 _ _⟩;obtain⟨k,r,hk,rfl,rfl,v,n,m,c⟩:=hrel;by_cases d:k<is.length
 ·obtain⟨ha,j,g⟩:=Jd B.out d;subst ha;have g0:=(c.cell (by exact j)).trans (g k d).1;have g1:=(c.cell (by exact j)).trans (g k d).2.1;have g2:=(c.cell (by exact j)).trans (g k d).2.2;have t:=u k;generalize hx:is.getD k zh=x at*;have A:=U0 hx
  go_wp2_with fail
  refine(a3W x r wr t v O0).mono ?_;rintro e w1⟨⟨q,rfl,hr⟩,y⟩;have p:=J5 c y;by_cases hneg:q<0
  ·clear hr;go_wp2;go_ret;exact⟨⟨-1,rfl,λh=>O0⟩,p⟩
  have o:=hr O0;have f:Hid (∀i,i<k+1->(is.getD i zh).le 1048576):=by
   intro i h;rcases D8 i k with h1|h1
   ·exact m i h1
   obtain rfl:i=k:=O0;rw[A.out];exact o.1
  go_wp2;go_roundw;exact⟨k+1,_,O0,by go_num,rfl,O0,Int.le_trans o.2 n,f,p⟩;exact Z9
 have f:=U0 (iH (λi h=>m.out i O0));go_wp2;go_ret;exact⟨⟨r,rfl,λ_=>⟨O0,f.out,n⟩⟩,c⟩
theorem rG{is:List R3}{B:Nat}(h:∀i,i<is.length->(is.getD i h_).le B)(i:Nat):(is.getD i h_).le B:=by
 rcases D8 i is.length with a|a
 ·exact h i a
 have e:is.getD i h_=h_:=by simp[List.getD,Zb a]
 rw[e];exact⟨J4 _,J4 _,λi=>⟨J4 _,J4 _⟩,J4 _⟩
theorem a4M(x:R3)(a:OA)(d:Nat)(l:Int)(w:World)(n:x.le 9223372036854775807)(h0:0<=l)(h1:l<=1048576)(o:R_ w a x.gs):
 Calls prog 114 #[.agg #[.string x.key,.slice a x.gs.length d,.string x.out],.int .i64 l] w λe w'=>(∃r:Int,e=.returned (.int .i64 r)/\(0<=r->x.le 1048576/\r<=l-x.gs.length))/\Bw w w':=by
 obtain⟨s1,j,i,s4⟩:=n;have c:Bw w (w.alloc (.cells #[vS x.key,vL a x.gs.length d,vS x.out] 156)):=Y6;by_cases h:l<x.key.size
 ·go_in
  go_wp2;go_ret;exact⟨⟨-1,rfl,λh=>O0⟩,c⟩
 have p:=a4w a d x.gs (l-x.key.size) _ O0 O0 i j (I9 o c)
 go_in
 go_wp2_with fail
 refine p.mono ?_;rintro e w1⟨⟨f,rfl,hr⟩,g⟩;have b:=c.trans (g.mono E5);have g2:w1.cell? ⟨w.heap.size,2,none⟩=some (vS x.out):=by rw[g.cell E5];simp
 by_cases hneg:f<0
 ·clear hr;go_wp2;go_ret;exact⟨⟨-1,rfl,λh=>O0⟩,b⟩
 obtain⟨m,k,q3⟩:=hr O0;have q:=U0 k;by_cases ho:f<x.out.size
 ·go_wp2;go_ret;exact⟨⟨-1,rfl,λh=>O0⟩,b⟩
 go_wp2;go_ret;exact⟨⟨_,rfl,λh=>⟨⟨O0,m,q.out,O0⟩,O0⟩⟩,b⟩
theorem c55(a:OA)(cap:Nat)(is:List R3)(l:Int)(w:World)(h0:0<=l)(h1:l<=1048576)(s:∀i,(is.getD i h_).le 9223372036854775807)(hl:is.length<=9223372036854775807)(z:ug w a is):
 Calls prog 55 #[.slice a is.length cap,.int .i64 l] w λe w'=>(∃r:Int,e=.returned (.int .i64 r)/\(0<=r->is.length<=1048576/\(∀i,(is.getD i h_).le 1048576)/\r<=l-is.length-Sz is))/\Bw w w':=by
 obtain⟨b,off,hc⟩:=Gf z;have F:=U0 hc;have E:=U0 s;by_cases hbig:l<is.length
 ·go_in
  go_wp2;go_ret;exact⟨⟨-1,rfl,λh=>O0⟩,G5 _ _⟩
 go_in
 go_wp2;go_loopw[1,5] (λp i wr=>∃(k:Nat)(r:Int),k<=is.length/\i=.int .i64 k/\p=.int .i64 r/\0<=r/\r<=l-is.length-Sz (is.take k)/\Hid (∀i,i<k->(is.getD i h_).le 1048576)/\Below w.heap.size w wr) (λ_ i _=>is.length-(RowKit.intOf i).toNat);exact⟨0,_,J4 _,rfl,rfl,O0,by simp[Sz],λi h=>absurd h (y9 _),G5 _ _⟩;obtain⟨k,r,hk,rfl,rfl,t,j,g,f⟩:=hrel;by_cases d:k<is.length
 ·obtain⟨ha,v,u⟩:=Jd F.out d;subst ha;obtain⟨C,B,e0,e1,e2,A⟩:=(u k d).below v f;have q:=E.out k;have hgs:=VN d;generalize hx:is.getD k h_=x at*;have D:=U0 hx
  go_wp2_with fail
  refine(a4M x C B r wr q t O0 A).mono ?_;rintro e w1⟨⟨o,rfl,hr⟩,y⟩;have n:=J5 f y;by_cases hneg:o<0
  ·clear hr;go_wp2;go_ret;exact⟨⟨-1,rfl,λh=>O0⟩,n⟩
  have m:=hr O0;have c:Hid (∀i,i<k+1->(is.getD i h_).le 1048576):=by
   intro i h;rcases D8 i k with h1|h1
   ·exact g i h1
   obtain rfl:i=k:=O0;rw[D.out];exact m.1
  have hr2:=m.2;go_wp2;go_roundw;exact⟨k+1,_,O0,by go_num,rfl,O0,O0,c,n⟩;exact Z9
 have c:=U0 (rG (λi h=>g.out i O0));go_wp2;go_ret;exact⟨⟨r,rfl,λ_=>⟨O0,c.out,by rw[C_ O0]at j;exact j⟩⟩,f⟩
theorem c13(ta ra:OA)(tc rc:Nat)(s:St)(l:Int)(w:World)(h0:0<=l)(hl:l<=1048576)(p:s.le 9223372036854775807)(g:Ef w ta ra s):
 Calls prog 13 #[.agg #[.int .i64 s.wd,.slice ta s.ts.length tc,.slice ra s.rs.length rc],.int .i64 l] w λe w'=>(∃r:Int,e=.returned (.int .i64 r)/\(0<=r->(s.le 1048576/\s.ts.length+s.rs.length+Sz s.rs<=1048576)/\r<=l))/\Bw w w':=by
 obtain⟨⟨h1,h2⟩,u,j⟩:=p;have a:Bw w (w.alloc (.cells #[vI s.wd,vL ta s.ts.length tc,vL ra s.rs.length rc] 30)):=Y6;have c:=(Hid.out (show Hid (Ef _ ta ra s) from g.below a));have m:=c15 ta tc s.ts l _ h0 hl h2 h1 c.1;have y:=U0 j;have v:=U0 c.2;clear g c j h2
 go_in
 go_wp2_with fail
 refine m.mono ?_;rintro e w1⟨⟨d,rfl,hr⟩,hw⟩;obtain rfl:=hw;clear m;by_cases q:d<0
 ·clear hr;go_wp2;go_ret;exact⟨⟨-1,rfl,λh=>O0⟩,a⟩
 obtain⟨o,f,q3⟩:=hr O0;have x:=U0 f;clear hr f;have k:=c55 ra rc s.rs d _ O0 O0 y.out u v.out
 go_wp2_with fail
 refine k.mono ?_;rintro e w2⟨⟨n,rfl,hr⟩,t⟩;have i:=a.trans (t.mono E5);have b:=U0 hr;clear k hr;by_cases q:n<0
 ·go_wp2;go_ret;exact⟨⟨-1,rfl,λh=>O0⟩,i⟩
 have hr2:=(b.out O0).2.2;go_wp2;go_ret;exact⟨⟨_,rfl,λh=>⟨⟨⟨⟨o,x.out⟩,(b.out h).1,(b.out h).2.1⟩,O0⟩,O0⟩⟩,i⟩
theorem a2J(c:Int)(s:BY)(w:World):
 Calls prog 166 #[.agg #[.int .i64 c,.string s],.agg #[.int .i64 c,.string s]] w λe w'=>e=.returned (.bool true)/\Bw w w':=by
 go_in
 go_wp2;go_ret;exact⟨rfl,Y6.alloc E5 _⟩
theorem xH{is:List L4}{B:Nat}(h:∀i,i<is.length->(is.getD i M_).le B)(i:Nat):(is.getD i M_).le B:=by
 rcases D8 i is.length with a|a
 ·exact h i a
 have e:is.getD i M_=M_:=by simp[List.getD,Zb a]
 rw[e];exact⟨J4 _,J4 _⟩
theorem a5x(x:L4)(w:World):
 Calls prog 215 #[.agg #[.bool x.has,.string x.nm,.int .i64 x.cd,.string x.tx],.agg #[.bool x.has,.string x.nm,.int .i64 x.cd,.string x.tx]] w λe w'=>e=.returned (.bool true)/\Bw w w':=by
 go_in
 go_wp2_with fail
 have hB:∀o1 o2,Bw w ((w.alloc o1).alloc o2):=λo1 o2=>Y6.alloc E5 _;refine(a2J x.cd x.tx _).mono ?_;rintro e w1⟨rfl,a⟩;go_wp2;go_ret;exact⟨rfl,(hB _ _).trans (a.mono Q8)⟩
theorem a4x(a o:OA)(cap r:Nat)(is:List L4)(w:World)(hl:is.length<=1048576)(n:S9 w a is)(m:S9 w o is):
 Calls prog 165 #[.slice a is.length cap,.slice o is.length r] w λe w'=>e=.returned (.bool true)/\Bw w w':=by
 obtain⟨b,off,hc⟩:=Yg n;have t:=U0 hc;clear hc n;obtain⟨b',off',l⟩:=Yg m;have s:=U0 l;clear l m
 go_in
 go_wp2;go_loopw[5] (λi wr=>∃(k:Nat),k<=is.length/\i=.int .i64 k/\Below w.heap.size w wr) (λi _=>is.length-(RowKit.intOf i).toNat);exact⟨0,J4 _,rfl,G5 _ _⟩;obtain⟨k,hk,rfl,c⟩:=hrel;by_cases d:k<is.length
 ·obtain⟨ha,j,g⟩:=Jd t.out d;obtain⟨q,h,f⟩:=Jd s.out d;subst ha;subst q;have g0:=(c.cell (by exact j)).trans (g k d).1;have g1:=(c.cell (by exact j)).trans (g k d).2.1;have g2:=(c.cell (by exact j)).trans (g k d).2.2.1;have g3:=(c.cell (by exact j)).trans (g k d).2.2.2;have g0':=(c.cell (by exact h)).trans (f k d).1;have g1':=(c.cell (by exact h)).trans (f k d).2.1;have g2':=(c.cell (by exact h)).trans (f k d).2.2.1;have g3':=(c.cell (by exact h)).trans (f k d).2.2.2;generalize is.getD k M_=x at*;clear g f
  go_wp2_with fail
  go_region_with(go_at_call 215;refine(a5x x _).mono ?_;rintro e w1⟨rfl,p⟩)
  all_goals go_wp2
  all_goals go_roundw
  all_goals first
   | exact⟨k+1,O0,by go_num,(c.drew).trans (p.mono c.size)⟩
   | (exact Z9)
 go_wp2;go_ret;exact⟨rfl,c⟩
theorem c116(cd:Int)(tx:BY)(l:Int)(w:World)(hs:tx.size<=9223372036854775807)(h0:0<=l)(h1:l<=1048576):
 Calls prog 116 #[.agg #[.int .i64 cd,.string tx],.int .i64 l] w λe w'=>(∃r:Int,e=.returned (.int .i64 r)/\(0<=r->tx.size<=1048576/\r<=1048576))/\Bw w w':=by
 by_cases h':l<tx.size
 ·go_in
  go_wp2;go_ret;exact⟨⟨-1,rfl,λh=>O0⟩,Y6⟩
 go_in
 go_wp2;go_ret;exact⟨⟨_,rfl,λh=>O0⟩,Y6⟩
theorem a3F(x:L4)(l:Int)(w:World)(d:x.le 9223372036854775807)(h0:0<=l)(h1:l<=1048576):
 Calls prog 170 #[.agg #[.bool x.has,.string x.nm,.int .i64 x.cd,.string x.tx],.int .i64 l] w λe w'=>(∃r:Int,e=.returned (.int .i64 r)/\(0<=r->x.le 1048576/\r<=1048576))/\Bw w w':=by
 obtain⟨s2,c⟩:=d;by_cases h':l<x.nm.size
 ·go_in
  go_wp2;go_ret;exact⟨⟨-1,rfl,λh=>O0⟩,Y6⟩
 have g:=λu=>c116 x.cd x.tx (l-x.nm.size) u c O0 O0
 go_in
 go_wp2_with fail
 refine(g _).mono ?_;rintro e w1⟨⟨r,rfl,hr⟩,f⟩;have b:=Y6.trans (f.mono E5);by_cases hn:r<0
 ·clear hr;go_wp2;go_ret;exact⟨⟨-1,rfl,λh=>O0⟩,b⟩
 have a:=hr O0;clear hr;go_wp2;go_ret;exact⟨⟨r,rfl,λh=>⟨⟨O0,a.1⟩,a.2⟩⟩,b⟩
theorem a5h(a:OA)(cap:Nat)(is:List L4)(l:Int)(w:World)(h0:0<=l)(h1:l<=1048576)(u:∀i,(is.getD i M_).le 9223372036854775807)(hl:is.length<=9223372036854775807)(p:S9 w a is):
 Calls prog 115 #[.slice a is.length cap,.int .i64 l] w λe w'=>(∃r:Int,e=.returned (.int .i64 r)/\(0<=r->is.length<=1048576/\(∀i,(is.getD i M_).le 1048576)/\r<=1048576))/\Bw w w':=by
 obtain⟨b,off,hc⟩:=Yg p;have A:=U0 hc;clear hc p;by_cases hbig:l<is.length
 ·go_in
  go_wp2;go_ret;exact⟨⟨-1,rfl,λh=>O0⟩,G5 _ _⟩
 go_in
 go_wp2;go_loopw[1,5] (λl i wr=>∃(k:Nat)(r:Int),k<=is.length/\i=.int .i64 k/\l=.int .i64 r/\0<=r/\r<=1048576/\Hid (∀i,i<k->(is.getD i M_).le 1048576)/\Below w.heap.size w wr) (λ_ i _=>is.length-(RowKit.intOf i).toNat);exact⟨0,_,J4 _,rfl,rfl,O0,O0,λi h=>absurd h (y9 _),G5 _ _⟩;obtain⟨k,r,hk,rfl,rfl,v,n,m,c⟩:=hrel;by_cases d:k<is.length
 ·obtain⟨ha,g,f⟩:=Jd A.out d;subst ha;have g0:=(c.cell (by exact g)).trans (f k d).1;have g1:=(c.cell (by exact g)).trans (f k d).2.1;have g2:=(c.cell (by exact g)).trans (f k d).2.2.1;have g3:=(c.cell (by exact g)).trans (f k d).2.2.2;have t:=u k;generalize hx:is.getD k M_=x at*;have z:=U0 hx;clear hx f
  go_wp2_with fail
  refine(a3F x r wr t v n).mono ?_;rintro e w1⟨⟨s,rfl,hr⟩,y⟩;have q:=J5 c y;by_cases hneg:s<0
  ·clear hr;go_wp2;go_ret;exact⟨⟨-1,rfl,λh=>O0⟩,q⟩
  have o:=hr O0;have j:Hid (∀i,i<k+1->(is.getD i M_).le 1048576):=by
   intro i h;rcases D8 i k with h1|h1
   ·exact m.out i h1
   obtain rfl:i=k:=O0;rw[z.out];exact o.1
  clear hr;go_wp2;go_roundw;exact⟨k+1,_,O0,by go_num,rfl,O0,o.2,j,q⟩;exact Z9
 have j:=U0 (xH (λi h=>m.out i O0));go_wp2;go_ret;exact⟨⟨r,rfl,λ_=>⟨O0,j.out,n⟩⟩,c⟩
theorem a3G(x:R3)(a:OA)(b:Nat)(w:World)(hl:x.gs.length<=1048576)(k:R_ w a x.gs):
 Calls prog 134 #[.agg #[.string x.key,.slice a x.gs.length b,.string x.out]] w λe w'=>(∃v,e=.returned (.agg #[.string x.key,v,.string x.out])/\Tt w.heap.size w' R_ 213 3 x.gs v)/\Bw w w':=by
 have m:=U0 k
 go_in
 go_upto_region 2 with fail
 have H:=U0 (Nj (w:=w) (ta:=156) (tr:=162) (ar:=[.string x.key,.slice a x.gs.length b,.string x.out]) (zs:=[.string ⟨#[]⟩,.slice none 0 0,.string ⟨#[]⟩]));generalize ((w.alloc (.cells #[.string x.key,.slice a x.gs.length b,.string x.out] 156)).alloc (.cells #[.string ⟨#[]⟩,.slice none 0 0,.string ⟨#[]⟩] 162)).alloc (.cells #[.string ⟨#[]⟩,.slice none 0 0,.string ⟨#[]⟩] 162)=V at*
 go_wp2_with(first|(refine N8 H.out.ca rfl _ _ rfl rfl rfl Y1 ?_)|(refine Qe H.out rfl 9 _ _ rfl (j:=0) (.string x.key) rfl rfl rfl (Cb rfl) Y1 ?_;clear H;intro V H))
 refine(a5q a b x.gs V hl (XV (I9 m H.out.bel))).mono ?_;rintro e V1⟨⟨_,rfl,d,c,rfl,i,f⟩,g⟩
 replace H:=U0 (H.out.call g (jQ f H.out.bel.size))
 go_wp2_with(first|(refine N8 H.out.ca rfl _ _ rfl rfl rfl Y1 ?_)|(refine Qe H.out rfl 160 _ _ rfl (j:=1) (.slice d x.gs.length c) rfl rfl rfl (Cb rfl) Y1 ?_;clear H;intro V H)|(refine Qe H.out rfl 9 _ _ rfl (j:=2) (.string x.out) rfl rfl rfl (Cb rfl) Y1 ?_;clear H;intro V H)|(refine xA H.out rfl 162 _ rfl [.string x.key,.slice d x.gs.length c,.string x.out] rfl rfl underlying162 rfl Y1 ?_)|(refine XA H.out rfl 162 _ _ rfl [.string x.key,.slice d x.gs.length c,.string x.out] rfl rfl rfl rfl Y1 ?_;clear H;intro z l f g))
 exact Q7 (J7 (P:=prog) (ty:=162) rfl _ z (w.heap.size+1) [.string x.key,.slice d x.gs.length c,.string x.out] _ rfl l underlying162 rfl Y1) rfl ⟨⟨_,rfl,_,_,rfl,i,f.imp (λu h=>⟨GV h.2.1,h.2.2⟩)⟩,g⟩
theorem c80(a:OA)(cap:Nat)(is:List R3)(w:World)(hl:is.length<=1048576)(A:∀i,(R3.gs (is.getD i h_)).length<=1048576)(D:ug w a is):
 Calls prog 80 #[.slice a is.length cap] w λe w'=>(∃v,e=.returned v/\a0g w.heap.size w' ug 162 3 1 213 3 is v)/\Bw w w':=by
 obtain⟨b,off,hc⟩:=Gf D;have U:=U0 hc;have F:=U0 A;clear hc D A;have hmk:=Qx (z:=[.string ⟨#[]⟩,.slice none 0 0,.string ⟨#[]⟩]) underlying41 (show(prog.info? 162).map (λi=>(i.zero,i.size,i.bytes))=some (some (.agg #[.string ⟨#[]⟩,.slice none 0 0,.string ⟨#[]⟩]),3,56) from Y1) rfl rfl Z5 hl
 go_in
 go_wp2;go_loopw[4] (λi wr=>∃(k:Nat)(ps:List (R3×Value)),k<=is.length/\i=.int .i64 k/\Below w.heap.size w wr/\Hid (ps.map Prod.fst=is.take k)/\Hid (Cl wr w.heap.size 162 (ps.flatMap uJ++zs [.string ⟨#[]⟩,.slice none 0 0,.string ⟨#[]⟩] (is.length-k)))/\Hid (∀p∈ps,Tt (w.heap.size+1) wr R_ 213 3 (R3.gs p.1) p.2)) (λi _=>is.length-(RowKit.intOf i).toNat);exact⟨0,[],J4 _,rfl,Y6,rfl,X4 _ _ _,λp c=>absurd c Ho⟩;obtain⟨k,ps,hk,rfl,q,c,hc,E⟩:=hrel;by_cases n:k<is.length;rotate_left
 ·obtain rfl:k=is.length:=O0;have hd:=U0 (nM (d:=h_) (f:=uJ) (m:=3) (j:=1) (RS:=ug) (λ_=>rfl) (λ_=>rfl) F.out (λu g K h=>.inr ⟨g,0,rfl,K,λi J=>by obtain⟨t,s,hB,N⟩:=h i J;exact⟨t,s,hB 0 _ rfl,hB 1 _ rfl,hB 2 _ rfl,N⟩⟩) c.out hc.out E.out);go_wp2;go_ret;exact⟨⟨_,rfl,hd.out⟩,q⟩
 obtain⟨ha,L,C⟩:=Jd U.out n;subst ha;obtain⟨t,s,g0,g1,g2,P⟩:=(C k n).below L q;have I:=F.out k;have y:=U0 (MK (d:=h_) (z:=[.string ⟨#[]⟩,.slice none 0 0,.string ⟨#[]⟩]) (f:=uJ) (m:=3) (λ_=>rfl) rfl c.out n);generalize is.getD k h_=x at*;clear C
 go_wp2_with fail
 refine(a3G x t s wr I P).mono ?_;rintro e w1⟨⟨v,rfl,hv⟩,o⟩;have O:=J5 q o;have S:=U0 (hc.out.below o hc.out.lt);have Q:=U0 (hv.low (b':=w.heap.size+1) (by have:=hc.out.lt;omega));have R:Hid (∀p∈ps,Tt (w.heap.size+1) w1 R_ 213 3 (R3.gs p.1) p.2):=λp c=>(E p c).below o;have V:Hid (∀u∈uJ (x,v),u.oneCell'=true):=by
  obtain⟨_,_,rfl,_⟩:=hv;exact Y5 rfl
 go_wp2_with(refine I7 rfl 162 _ _ rfl (B:=w.heap.size) (j:=k*3) rfl (vs:=uJ (x,v)) rfl S.out (y.out v).2.1 V.out Y1 ?_;intro z r l;rw[(y.out v).2.2]at r;have W:=U0 r;have bz:=O.trans (l.below X7);have H:=U0 l;clear r l)
 go_roundw
 ·refine⟨k+1,ps++[(x,v)],O0,by go_num,bz,(y.out v).1,W,λp c=>?_⟩;rcases Dh.1 c with h|h
  ·exact(R p h).on H O0
  rw[Dk.1 h];exact Q.out.on H O0
 exact Z9
def StO(A:Nat)(u:World)(a:OA)(g:Nat)(s:St):Prop:=ax A u a 9 s.ts.length/\ax A u (some ⟨g,0,none⟩) 162 (s.rs.length*3)/\InO u g s.rs.length 3 1 213 3
theorem c25(ta ra:OA)(tc rc:Nat)(s:St)(w:World)(o:s.le 1048576)(p:Ef w ta ra s):
 Calls prog 25 #[.agg #[.int .i64 s.wd,.slice ta s.ts.length tc,.slice ra s.rs.length rc]] w λe w'=>(∃a c g r,e=.returned (.agg #[.int .i64 s.wd,.slice a s.ts.length c,.slice (some ⟨g,0,none⟩) s.rs.length r])/\Kp w.heap.size w' λu=>Ef u a (some ⟨g,0,none⟩) s/\StO w.heap.size u a g s)/\Bw w w':=by
 have n:=U0 p;have m:=U0 o
 go_in
 go_upto_region 2 with fail
 have H:=U0 (Nj (w:=w) (ta:=30) (tr:=43) (ar:=[.int .i64 s.wd,.slice ta s.ts.length tc,.slice ra s.rs.length rc]) (zs:=[.int .i64 0,.slice none 0 0,.slice none 0 0]));generalize ((w.alloc (.cells #[.int .i64 s.wd,.slice ta s.ts.length tc,.slice ra s.rs.length rc] 30)).alloc (.cells #[.int .i64 0,.slice none 0 0,.slice none 0 0] 43)).alloc (.cells #[.int .i64 0,.slice none 0 0,.slice none 0 0] 43)=V at*
 go_wp2_with(first|(refine N8 H.out.ca rfl _ _ rfl rfl rfl Y1 ?_)|(refine Qe H.out rfl 3 _ _ rfl (j:=0) (.int .i64 s.wd) rfl rfl rfl (Cb rfl) Y1 ?_;clear H;intro V H))
 refine(XW ta tc s.ts V m.out.1.1 (P6 n.out.1 H.out.bel)).mono ?_;rintro e V1⟨⟨_,rfl,l,f,rfl,_,b⟩,d⟩
 replace H:=U0 (H.out.call d (qU b H.out.bel.size))
 go_wp2_with(first|(refine N8 H.out.ca rfl _ _ rfl rfl rfl Y1 ?_)|(refine Qe H.out rfl 22 _ _ rfl (j:=1) (.slice l s.ts.length f) rfl rfl rfl (Cb rfl) Y1 ?_;clear H;intro V H))
 refine(c80 ra rc s.rs V m.out.2.1 (λi=>(m.out.2.2 i).2.1) (Qh n.out.2 H.out.bel)).mono ?_;rintro e V1⟨⟨_,rfl,k,c2,rfl,b⟩,d⟩
 replace H:=U0 (H.out.call d (a1X b H.out.bel.size))
 go_wp2_with(first|(refine N8 H.out.ca rfl _ _ rfl rfl rfl Y1 ?_)|(refine Qe H.out rfl 41 _ _ rfl (j:=2) (.slice (some ⟨k,0,none⟩) s.rs.length c2) rfl rfl rfl (Cb rfl) Y1 ?_;clear H;intro V H)|(refine xA H.out rfl 43 _ rfl [.int .i64 s.wd,.slice l s.ts.length f,.slice (some ⟨k,0,none⟩) s.rs.length c2] rfl rfl underlying43 rfl Y1 ?_)|(refine XA H.out rfl 43 _ _ rfl [.int .i64 s.wd,.slice l s.ts.length f,.slice (some ⟨k,0,none⟩) s.rs.length c2] rfl rfl rfl rfl Y1 ?_;clear H;intro z q b d))
 exact Q7 (J7 (P:=prog) (ty:=43) rfl _ z (w.heap.size+1) [.int .i64 s.wd,.slice l s.ts.length f,.slice (some ⟨k,0,none⟩) s.rs.length c2] _ rfl q underlying43 rfl Y1) rfl ⟨⟨_,_,_,_,rfl,b.imp (λu h=>⟨⟨h.1.2.1,h.2.1⟩,h.1.2.2,h.2.2.1,h.2.2.2⟩)⟩,d⟩
theorem c81(x:Rn)(b:OA)(c:Nat)(w:World)(hl:x.ls.length<=1048576)(k:S9 w b x.ls):
 Calls prog 81 #[.agg #[.string x.nm,.int .i64 x.md,.string x.wt,.slice b x.ls.length c,.int .i64 x.cd,.string x.tx]] w λe w'=>(∃v,e=.returned (.agg #[.string x.nm,.int .i64 x.md,.string x.wt,v,.int .i64 x.cd,.string x.tx])/\Tt w.heap.size w' S9 138 4 x.ls v)/\Bw w w':=by
 have m:=U0 k
 go_in
 go_upto_region 2 with fail
 have H:=U0 (Nj (w:=w) (ta:=100) (tr:=111) (ar:=[.string x.nm,.int .i64 x.md,.string x.wt,.slice b x.ls.length c,.int .i64 x.cd,.string x.tx]) (zs:=[.string ⟨#[]⟩,.int .i64 0,.string ⟨#[]⟩,.slice none 0 0,.int .i64 0,.string ⟨#[]⟩]));generalize ((w.alloc (.cells #[.string x.nm,.int .i64 x.md,.string x.wt,.slice b x.ls.length c,.int .i64 x.cd,.string x.tx] 100)).alloc (.cells #[.string ⟨#[]⟩,.int .i64 0,.string ⟨#[]⟩,.slice none 0 0,.int .i64 0,.string ⟨#[]⟩] 111)).alloc (.cells #[.string ⟨#[]⟩,.int .i64 0,.string ⟨#[]⟩,.slice none 0 0,.int .i64 0,.string ⟨#[]⟩] 111)=V at*
 go_wp2_with(first|(refine N8 H.out.ca rfl _ _ rfl rfl rfl Y1 ?_)|(refine Qe H.out rfl 9 _ _ rfl (j:=0) (.string x.nm) rfl rfl rfl (Cb rfl) Y1 ?_;clear H;intro V H)|(refine Qe H.out rfl 3 _ _ rfl (j:=1) (.int .i64 x.md) rfl rfl rfl (Cb rfl) Y1 ?_;clear H;intro V H)|(refine Qe H.out rfl 9 _ _ rfl (j:=2) (.string x.wt) rfl rfl rfl (Cb rfl) Y1 ?_;clear H;intro V H))
 refine(a4i b c x.ls V hl (EY (U7 m H.out.bel))).mono ?_;rintro e V1⟨⟨_,rfl,f,d,rfl,i,g⟩,a⟩
 replace H:=U0 (H.out.call a (jQ g H.out.bel.size))
 go_wp2_with(first|(refine H8 H.out.ca rfl 98 _ rfl (j:=4) [.int .i64 x.cd,.string x.tx] rfl rfl underlying98 rfl Y1 ?_)|(refine N8 H.out.ca rfl _ _ rfl rfl rfl Y1 ?_)|(refine Qe H.out rfl 70 _ _ rfl (j:=3) (.slice f x.ls.length d) rfl rfl rfl (Cb rfl) Y1 ?_;clear H;intro V H))
 refine(a2H x.cd x.tx V).mono ?_;rintro e V1⟨rfl,a⟩
 replace H:=U0 (H.out.call a (Q:=λ_=>True) (λ_ _ _=>trivial))
 go_wp2_with(first|(refine N8 H.out.ca rfl _ _ rfl rfl rfl Y1 ?_)|(refine WG H.out rfl 72 _ _ rfl (j:=4) [.int .i64 x.cd,.string x.tx] rfl rfl (Cb rfl) rfl Y1 ?_;clear H;intro V H)|(refine xA H.out rfl 111 _ rfl [.string x.nm,.int .i64 x.md,.string x.wt,.slice f x.ls.length d,.int .i64 x.cd,.string x.tx] rfl rfl underlying111 rfl Y1 ?_)|(refine XA H.out rfl 111 _ _ rfl [.string x.nm,.int .i64 x.md,.string x.wt,.slice f x.ls.length d,.int .i64 x.cd,.string x.tx] rfl rfl rfl rfl Y1 ?_;clear H;intro z l g a))
 exact Q7 (J7 (P:=prog) (ty:=111) rfl _ z (w.heap.size+1) [.string x.nm,.int .i64 x.md,.string x.wt,.slice f x.ls.length d,.int .i64 x.cd,.string x.tx] _ rfl l underlying111 rfl Y1) rfl ⟨⟨_,rfl,_,_,rfl,i,g.imp (λu h=>⟨NY h.1.2.1,h.1.2.2⟩)⟩,a⟩
theorem c28(a:OA)(cap:Nat)(is:List Rn)(w:World)(hl:is.length<=1048576)(A:∀i,(Rn.ls (is.getD i A_)).length<=1048576)(D:yj w a is):
 Calls prog 28 #[.slice a is.length cap] w λe w'=>(∃v,e=.returned v/\a0g w.heap.size w' yj 111 6 3 138 4 is v)/\Bw w w':=by
 obtain⟨b,off,hc⟩:=Na D;have V:=U0 hc;have H:=U0 A;clear hc D A;have hmk:=Qx (z:=[.string ⟨#[]⟩,.int .i64 0,.string ⟨#[]⟩,.slice none 0 0,.int .i64 0,.string ⟨#[]⟩]) underlying44 (show(prog.info? 111).map (λi=>(i.zero,i.size,i.bytes))=some (some (.agg #[.string ⟨#[]⟩,.int .i64 0,.string ⟨#[]⟩,.slice none 0 0,.int .i64 0,.string ⟨#[]⟩]),6,88) from Y1) rfl rfl Z5 hl
 go_in
 go_wp2;go_loopw[4] (λi wr=>∃(k:Nat)(ps:List (Rn×Value)),k<=is.length/\i=.int .i64 k/\Below w.heap.size w wr/\Hid (ps.map Prod.fst=is.take k)/\Hid (Cl wr w.heap.size 111 (ps.flatMap Ph++zs [.string ⟨#[]⟩,.int .i64 0,.string ⟨#[]⟩,.slice none 0 0,.int .i64 0,.string ⟨#[]⟩] (is.length-k)))/\Hid (∀p∈ps,Tt (w.heap.size+1) wr S9 138 4 (Rn.ls p.1) p.2)) (λi _=>is.length-(RowKit.intOf i).toNat);exact⟨0,[],J4 _,rfl,Y6,rfl,X4 _ _ _,λp c=>absurd c Ho⟩;obtain⟨k,ps,hk,rfl,s,c,hc,E⟩:=hrel;by_cases q:k<is.length;rotate_left
 ·obtain rfl:k=is.length:=O0;have hd:=U0 (nM (d:=A_) (f:=Ph) (m:=6) (j:=3) (RS:=yj) (λ_=>rfl) (λ_=>rfl) H.out (λu g L h=>.inr ⟨g,0,rfl,L,λi K=>by obtain⟨n,l,hB,O⟩:=h i K;exact⟨n,l,hB,O⟩⟩) c.out hc.out E.out);go_wp2;go_ret;exact⟨⟨_,rfl,hd.out⟩,s⟩
 obtain⟨ha,N,C⟩:=Jd V.out q;subst ha;obtain⟨n,l,F,Q⟩:=(C k q).below N s;have X:=U0 F;clear F;have J:=H.out k;have y:=U0 (MK (d:=A_) (z:=[.string ⟨#[]⟩,.int .i64 0,.string ⟨#[]⟩,.slice none 0 0,.int .i64 0,.string ⟨#[]⟩]) (f:=Ph) (m:=6) (λ_=>rfl) rfl c.out q);generalize is.getD k A_=x at*;clear C
 go_wp2_with(refine Vb rfl (d_ 100 _ rfl (B:=b) (j:=off+k*6) (cs:=Ph (x,.slice n x.ls.length l)) rfl X.out underlying100 rfl Y1) ?_)
 refine(c81 x n l wr J Q).mono ?_;rintro e w1⟨⟨v,rfl,hv⟩,r⟩;have P:=J5 s r;have U:=U0 (hc.out.below r hc.out.lt);have R:=U0 (hv.low (b':=w.heap.size+1) (by have:=hc.out.lt;omega));have S:Hid (∀p∈ps,Tt (w.heap.size+1) w1 S9 138 4 (Rn.ls p.1) p.2):=λp c=>(E p c).below r;have W:Hid (∀u∈Ph (x,v),u.oneCell'=true):=by
  obtain⟨_,_,rfl,_⟩:=hv;exact Y5 rfl
 go_wp2_with(refine I7 rfl 111 _ _ rfl (B:=w.heap.size) (j:=k*6) rfl (vs:=Ph (x,v)) rfl U.out (y.out v).2.1 W.out Y1 ?_;intro z t o;rw[(y.out v).2.2]at t;have Y:=U0 t;have bz:=P.trans (o.below X7);have I:=U0 o;clear t o)
 go_roundw
 ·refine⟨k+1,ps++[(x,v)],O0,by go_num,bz,(y.out v).1,Y,λp c=>?_⟩;rcases Dh.1 c with h|h
  ·exact(S p h).on I O0
  rw[Dk.1 h];exact R.out.on I O0
 exact Z9
theorem c23(sa la:OA)(sc lc:Nat)(sf lo:LB)(w:World)(h1:sf.length<=1048576)(h2:lo.length<=1048576)(m:Z7 w sa sf)(hl:Z7 w la lo):
 Calls prog 23 #[.agg #[.slice sa sf.length sc,.slice la lo.length lc]] w λe w'=>(∃a c k l,e=.returned (.agg #[.slice a sf.length c,.slice k lo.length l])/\lo.length<=l/\Kp w.heap.size w' λu=>(Z7 u a sf/\ax w.heap.size u a 9 sf.length)/\Z7 u k lo/\ax w.heap.size u k 9 lo.length)/\Bw w w':=by
 have q:=U0 m;have p:=U0 hl
 go_in
 go_upto_region 2 with fail
 have H:=U0 (Nj (w:=w) (ta:=24) (tr:=37) (ar:=[.slice sa sf.length sc,.slice la lo.length lc]) (zs:=[.slice none 0 0,.slice none 0 0]));generalize ((w.alloc (.cells #[.slice sa sf.length sc,.slice la lo.length lc] 24)).alloc (.cells #[.slice none 0 0,.slice none 0 0] 37)).alloc (.cells #[.slice none 0 0,.slice none 0 0] 37)=V at*
 go_wp2_with(first|(refine N8 H.out.ca rfl _ _ rfl rfl rfl Y1 ?_))
 refine(XW sa sc sf V h1 (P6 q H.out.bel)).mono ?_;rintro e V1⟨⟨_,rfl,i,f,rfl,_,b⟩,d⟩
 replace H:=U0 (H.out.call d (qU b H.out.bel.size))
 go_wp2_with(first|(refine N8 H.out.ca rfl _ _ rfl rfl rfl Y1 ?_)|(refine Qe H.out rfl 22 _ _ rfl (j:=0) (.slice i sf.length f) rfl rfl rfl (Cb rfl) Y1 ?_;clear H;intro V H))
 refine(XW la lc lo V h2 (P6 p H.out.bel)).mono ?_;rintro e V1⟨⟨_,rfl,g,c2,rfl,n,b⟩,d⟩
 replace H:=U0 (H.out.call d (qU b H.out.bel.size))
 go_wp2_with(first|(refine N8 H.out.ca rfl _ _ rfl rfl rfl Y1 ?_)|(refine Qe H.out rfl 22 _ _ rfl (j:=1) (.slice g lo.length c2) rfl rfl rfl (Cb rfl) Y1 ?_;clear H;intro V H)|(refine xA H.out rfl 37 _ rfl [.slice i sf.length f,.slice g lo.length c2] rfl rfl underlying37 rfl Y1 ?_)|(refine XA H.out rfl 37 _ _ rfl [.slice i sf.length f,.slice g lo.length c2] rfl rfl rfl rfl Y1 ?_;clear H;intro z o b d))
 exact Q7 (J7 (P:=prog) (ty:=37) rfl _ z (w.heap.size+1) [.slice i sf.length f,.slice g lo.length c2] _ rfl o underlying37 rfl Y1) rfl ⟨⟨_,_,_,_,rfl,n,b.imp (λu h=>⟨h.1.2,h.2⟩)⟩,d⟩
theorem c24(a:OA)(cap:Nat)(is:List T.F2)(w:World)(hl:is.length<=1048576)(i:T.G6 w a is):
 Calls prog 24 #[.agg #[.slice a is.length cap]] w λe w'=>(∃a c,e=.returned (.agg #[.slice a is.length c])/\Kp w.heap.size w' λu=>T.G6 u a is/\ax w.heap.size u a 67 (is.length*2))/\Bw w w':=by
 have l:=U0 i
 go_in
 go_upto_region 2 with fail
 have H:=U0 (Nj (w:=w) (ta:=27) (tr:=40) (ar:=[.slice a is.length cap]) (zs:=[.slice none 0 0]));generalize ((w.alloc (.cells #[.slice a is.length cap] 27)).alloc (.cells #[.slice none 0 0] 40)).alloc (.cells #[.slice none 0 0] 40)=V at*
 go_wp2_with(first|(refine N8 H.out.ca rfl _ _ rfl rfl rfl Y1 ?_))
 refine(c79 a cap is V hl (jZ (T.U5 l H.out.bel))).mono ?_;rintro e V1⟨⟨_,rfl,d,b,rfl,hq,f⟩,g⟩
 replace H:=U0 (H.out.call g (jQ f H.out.bel.size))
 go_wp2_with(first|(refine N8 H.out.ca rfl _ _ rfl rfl rfl Y1 ?_)|(refine Qe H.out rfl 38 _ _ rfl (j:=0) (.slice d is.length b) rfl rfl rfl (Cb rfl) Y1 ?_;clear H;intro V H)|(refine xA H.out rfl 40 _ rfl [.slice d is.length b] rfl rfl underlying40 rfl Y1 ?_)|(refine XA H.out rfl 40 _ _ rfl [.slice d is.length b] rfl rfl rfl rfl Y1 ?_;clear H;intro z k f g))
 exact Q7 (J7 (P:=prog) (ty:=40) rfl _ z (w.heap.size+1) [.slice d is.length b] _ rfl k underlying40 rfl Y1) rfl ⟨⟨_,_,rfl,f.imp (λu h=>⟨a2r h.2.1,h.2.2⟩)⟩,g⟩
theorem c11(sa la:OA)(sc lc:Nat)(sf lo:LB)(l:Int)(w:World)(h0:0<=l)(h1:l<=1048576)(j:∀i,(sf.getD i ByteArray.empty).size<=9223372036854775807)(g:∀i,(lo.getD i ByteArray.empty).size<=9223372036854775807)(hl:sf.length<=9223372036854775807)(m:lo.length<=9223372036854775807)(p:Z7 w sa sf)(n:Z7 w la lo):
 Calls prog 11 #[.agg #[.slice sa sf.length sc,.slice la lo.length lc],.int .i64 l] w λe w'=>(∃r:Int,e=.returned (.int .i64 r)/\(0<=r->(∀i,(sf.getD i ByteArray.empty).size<=1048576)/\(∀i,(lo.getD i ByteArray.empty).size<=1048576)/\sf.length+lo.length<=1048576/\r<=l))/\Bw w w':=by
 have c:=U0 (Y6 (w:=w) (o:=.cells #[vL sa sf.length sc,vL la lo.length lc] 24));have hc:=U0 (λr a b=>c15 la lc lo r _ a b g m (P6 n c));have hd:=c15 sa sc sf l _ h0 h1 j hl (P6 p c)
 go_in
 go_wp2_with fail
 refine hd.mono ?_;rintro e w1⟨⟨r,rfl,hr⟩,rfl⟩;have t:=U0 hr;by_cases k:r<0
 ·go_wp2;go_ret;exact⟨⟨-1,rfl,λh=>O0⟩,c⟩
 obtain⟨p1,f,p3⟩:=t.out O0;have v:=U0 f;have hd:=hc.out r O0 O0
 go_wp2_with fail
 refine hd.mono ?_;rintro e w1⟨⟨q,rfl,hr⟩,rfl⟩;have u:=U0 hr;by_cases k:q<0
 ·go_wp2;go_ret;exact⟨⟨-1,rfl,λh=>O0⟩,c⟩
 obtain⟨q1,d,q3⟩:=u.out O0;have s:=U0 d;go_wp2;go_ret;exact⟨⟨_,rfl,λh=>⟨v,s,O0,O0⟩⟩,c⟩
def Rn.le(x:Rn)(B:Nat):Prop:=x.nm.size<=B/\x.wt.size<=B/\(x.ls.length<=B/\∀i,(x.ls.getD i M_).le B)/\x.tx.size<=B
theorem c56(x:Rn)(a:OA)(b:Nat)(l:Int)(w:World)(h0:0<=l)(h1:l<=1048576)(u:x.le 9223372036854775807)(y:S9 w a x.ls):
 Calls prog 56 #[.agg #[.string x.nm,.int .i64 x.md,.string x.wt,.slice a x.ls.length b,.int .i64 x.cd,.string x.tx],.int .i64 l] w λe w'=>(∃r:Int,e=.returned (.int .i64 r)/\(0<=r->x.le 1048576/\r<=1048576))/\Bw w w':=by
 obtain⟨s1,s2,⟨p,n⟩,m⟩:=u;have f:=U0 (Y6 (w:=w) (o:=.cells #[vS x.nm,vI x.md,vS x.wt,vL a x.ls.length b,vI x.cd,vS x.tx] 100));have c:=U0 (X4 w [vS x.nm,vI x.md,vS x.wt,vL a x.ls.length b,vI x.cd,vS x.tx] 100);have H:=U0 (U7 y f);have D:=U0 n;have C:=c.out.cell 0;have a2:=c.out.cell 2;have B:=c.out.cell 3;simp only[gz]at C a2 B;by_cases h:l<x.nm.size
 ·go_in
  go_upto_region 1 with fail
  generalize w.alloc (.cells #[vS x.nm,vI x.md,vS x.wt,vL a x.ls.length b,vI x.cd,vS x.tx] 100)=V at*;go_wp2;go_ret;exact⟨⟨-1,rfl,λh=>O0⟩,f⟩
 by_cases h2:l-x.nm.size<x.wt.size
 ·go_in
  go_upto_region 1 with fail
  generalize w.alloc (.cells #[vS x.nm,vI x.md,vS x.wt,vL a x.ls.length b,vI x.cd,vS x.tx] 100)=V at*;go_wp2;go_ret;exact⟨⟨-1,rfl,λh=>O0⟩,f⟩
 go_in
 go_upto_region 1 with fail
 generalize w.alloc (.cells #[vS x.nm,vI x.md,vS x.wt,vL a x.ls.length b,vI x.cd,vS x.tx] 100)=V at*
 go_wp2_with fail
 refine(a5h a b x.ls (l-x.nm.size-x.wt.size) V O0 O0 D p H).mono ?_;rintro e w1⟨⟨r,rfl,hr⟩,d⟩;have E:=U0 hr;have k:=U0 (J5 f d);have i:=U0 (c.out.below d c.out.lt);by_cases v:r<0
 ·go_wp2;go_ret;exact⟨⟨-1,rfl,λh=>O0⟩,k⟩
 obtain⟨t,s,p3⟩:=E.out O0;have F:=U0 s;have A:=i.out.cell 4;have z:=i.out.cell 5;simp only[gz]at A z
 go_wp2_with fail
 refine(c116 x.cd x.tx r w1 m O0 O0).mono ?_;rintro e w2⟨⟨q,rfl,hr⟩,d⟩;have g:=U0 hr;have j:=U0 (J5 k d);by_cases v:q<0
 ·go_wp2;go_ret;exact⟨⟨-1,rfl,λh=>O0⟩,j⟩
 go_wp2;go_ret;exact⟨⟨_,rfl,λh=>⟨⟨O0,O0,⟨t,F⟩,(g h).1⟩,by have:=(g.out h).2;omega⟩⟩,j⟩
theorem a0O(B:Nat):A_.le B:=⟨J4 _,J4 _,⟨J4 _,λi=>⟨J4 _,J4 _⟩⟩,J4 _⟩
theorem c16(a:OA)(cap:Nat)(is:List Rn)(l:Int)(w:World)(h0:0<=l)(h1:l<=1048576)(v:∀i,(is.getD i A_).le 9223372036854775807)(hl:is.length<=9223372036854775807)(E:yj w a is):
 Calls prog 16 #[.slice a is.length cap,.int .i64 l] w λe w'=>(∃r:Int,e=.returned (.int .i64 r)/\(0<=r->is.length<=1048576/\(∀i,(is.getD i A_).le 1048576)/\r<=1048576))/\Bw w w':=by
 obtain⟨b,off,hc⟩:=Na E;have K:=U0 hc;have J:=U0 v;by_cases hbig:l<is.length
 ·go_in
  go_wp2;go_ret;exact⟨⟨-1,rfl,λh=>O0⟩,G5 _ _⟩
 go_in
 go_wp2;go_loopw[1,5] (λt i wr=>∃(k:Nat)(r:Int),k<=is.length/\i=.int .i64 k/\t=.int .i64 r/\0<=r/\r<=1048576/\Hid (∀i,i<k->(is.getD i A_).le 1048576)/\Below w.heap.size w wr) (λ_ i _=>is.length-(RowKit.intOf i).toNat);exact⟨0,_,J4 _,rfl,rfl,O0,O0,λi h=>absurd h (y9 _),G5 _ _⟩;obtain⟨k,r,hk,rfl,rfl,z,y,g,f⟩:=hrel;by_cases n:k<is.length;rotate_left
 ·have c:Hid (∀i,(is.getD i A_).le 1048576):=U0 (oQ (is:=is) (d:=A_) (R:=λx=>x.le 1048576) (a0O _) (λi h=>g.out i O0));go_wp2;go_ret;exact⟨⟨r,rfl,λ_=>⟨O0,c,y⟩⟩,f⟩
 obtain⟨ha,C,A⟩:=Jd K.out n;subst ha;obtain⟨q,p,H,F⟩:=(A k n).below C f;have L:=U0 H;have u:=J.out k;generalize hx:is.getD k A_=x at*;have I:=U0 hx
 go_wp2_with(refine Vb rfl (d_ 100 _ rfl (B:=b) (j:=off+k*6) (cs:=Ph (x,vL q x.ls.length p)) rfl L.out underlying100 rfl Y1) ?_)
 refine(c56 x q p r wr z O0 u F).mono ?_;rintro e w1⟨⟨s,rfl,hr⟩,D⟩;have o:=J5 f D;by_cases hneg:s<0
 ·clear hr;go_wp2;go_ret;exact⟨⟨-1,rfl,λh=>O0⟩,o⟩
 have m:=hr O0;have c:Hid (∀i,i<k+1->(is.getD i A_).le 1048576):=by
  intro i h;rcases D8 i k with h1|h1
  ·exact g i h1
  obtain rfl:i=k:=O0;rw[I.out];exact m.1
 have hr2:=m.2;go_wp2;go_roundw;exact⟨k+1,_,O0,by go_num,rfl,O0,O0,c,o⟩;exact Z9
structure Bs where
 wd:Int
 up:Bool
 now:Int
 ep:Int
 ed:Int
 sf:LB
 lo:LB
 fs:List T.F2
 s:St
 hd:List Int
 rt:LB
 rn:List Rn
 jb:List Jb
structure Ba where
 sa:OA
 sc:Nat
 la:OA
 lc:Nat
 fa:OA
 fc:Nat
 ta:OA
 tc:Nat
 ra:OA
 rc:Nat
 ha:OA
 hc:Nat
 oa:OA
 oc:Nat
 na:OA
 nc:Nat
 ja:OA
 jc:Nat
@[go_sem] abbrev bsV(b:Bs)(q:Ba):List Value:=[.int .i64 b.wd,.bool b.up,.int .i64 b.now,.int .i64 b.ep,.int .i64 b.ed,.slice q.sa b.sf.length q.sc,.slice q.la b.lo.length q.lc,.slice q.fa b.fs.length q.fc,.int .i64 b.s.wd,.slice q.ta b.s.ts.length q.tc,.slice q.ra b.s.rs.length q.rc,.slice q.ha b.hd.length q.hc,.slice q.oa b.rt.length q.oc,.slice q.na b.rn.length q.nc,.slice q.ja b.jb.length q.jc]
structure Gh(w:World)(b:Bs)(q:Ba):Prop where
 sf:Z7 w q.sa b.sf
 lo:Z7 w q.la b.lo
 fs:T.G6 w q.fa b.fs
 st:Ef w q.ta q.ra b.s
 hd:Rf w q.ha b.hd
 rt:Z7 w q.oa b.rt
 rn:yj w q.na b.rn
 jb:ak w q.ja b.jb
theorem Gh.below{w w':World}{b:Bs}{q:Ba}(h:Gh w b q)(a:Bw w w'):Gh w' b q:=⟨P6 h.sf a,P6 h.lo a,T.U5 h.fs a,h.st.below a,Jh h.hd a,P6 h.rt a,Ff h.rn a,Jm h.jb a⟩
def ER(b:Bs)(q:Ba):Prop:=b.rt.length<=q.oc/\b.jb.length<=q.jc/\b.lo.length<=q.lc
structure Ug(b:Bs)(B:Nat):Prop where
 sl:b.sf.length<=B
 ss:∀i,(b.sf.getD i ByteArray.empty).size<=B
 ll:b.lo.length<=B
 ls:∀i,(b.lo.getD i ByteArray.empty).size<=B
 fl:b.fs.length<=B
 fz:∀i,(b.fs.getD i T.G9).le B
 st:b.s.le B
 hl:b.hd.length<=B
 rl:b.rt.length<=B
 rs:∀i,(b.rt.getD i ByteArray.empty).size<=B
 nl:b.rn.length<=B
 ns:∀i,(b.rn.getD i A_).le B
 jl:b.jb.length<=B
 js:∀i,(b.jb.getD i ve).nm.size<=B
@[go_sem] abbrev bz:List Value:=[.int .i64 0,.bool false,.int .i64 0,.int .i64 0,.int .i64 0,.slice none 0 0,.slice none 0 0,.slice none 0 0,.int .i64 0,.slice none 0 0,.slice none 0 0,.slice none 0 0,.slice none 0 0,.slice none 0 0,.slice none 0 0]
structure BsO(A B:Nat)(u:World)(b:Bs)(q:Ba):Prop where
 sf:Ow A B u q.sa 9 b.sf.length
 lo:Ow A B u q.la 9 b.lo.length
 fs:Ow A B u q.fa 67 (b.fs.length*2)
 ts:Ow A B u q.ta 9 b.s.ts.length
 rs:UZ A B u q.ra 162 b.s.rs.length 3 1 213 3
 hd:Ow A B u q.ha 3 b.hd.length
 rt:Ow A B u q.oa 9 b.rt.length
 rn:UZ A B u q.na 111 b.rn.length 6 3 138 4
 jb:Ow A B u q.ja 127 (b.jb.length*3)
theorem c6(b:Bs)(q:Ba)(w:World)(hl:Ug b 1048576)(L:Gh w b q):
 Calls prog 6 #[.agg (bsV b q).toArray] w λe w'=>(∃n,e=.returned (.agg (bsV b n).toArray)/\Gh w' b n/\ER b n/\BsO w.heap.size w'.heap.size w' b n)/\Bw w w':=by
 have f:=U0 L;have d:=U0 hl;clear L hl
 go_in
 go_upto_region 2 with fail
 have H:=U0 (Nj (w:=w) (ta:=35) (tr:=47) (ar:=bsV b q) (zs:=bz));generalize ((w.alloc (.cells (bsV b q).toArray 35)).alloc (.cells bz.toArray 47)).alloc (.cells bz.toArray 47)=V at*
 go_wp2_with(first|(refine H8 H.out.ca rfl 24 _ rfl (j:=5) [vL q.sa b.sf.length q.sc,vL q.la b.lo.length q.lc] rfl rfl underlying24 rfl Y1 ?_)|(refine N8 H.out.ca rfl _ _ rfl rfl rfl Y1 ?_)|(refine Qe H.out rfl 3 _ _ rfl (j:=0) (vI b.wd) rfl rfl rfl (Cb rfl) Y1 ?_;clear H;intro V H)|(refine Qe H.out rfl 4 _ _ rfl (j:=1) (.bool b.up) rfl rfl rfl (Cb rfl) Y1 ?_;clear H;intro V H)|(refine Qe H.out rfl 3 _ _ rfl (j:=2) (vI b.now) rfl rfl rfl (Cb rfl) Y1 ?_;clear H;intro V H)|(refine Qe H.out rfl 3 _ _ rfl (j:=3) (vI b.ep) rfl rfl rfl (Cb rfl) Y1 ?_;clear H;intro V H)|(refine Qe H.out rfl 3 _ _ rfl (j:=4) (vI b.ed) rfl rfl rfl (Cb rfl) Y1 ?_;clear H;intro V H))
 refine(c23 q.sa q.la q.sc q.lc b.sf b.lo V d.out.sl d.out.ll (P6 f.out.sf H.out.bel) (P6 f.out.lo H.out.bel)).mono ?_;rintro e V1⟨⟨m,B,l,A,rfl,U,a⟩,c⟩
 replace H:=U0 (H.out.call c (a.imp λu h=>(⟨⟨h.1.1,h.1.2.mono H.out.bel.size⟩,h.2.1,h.2.2.mono H.out.bel.size⟩:(Z7 u m b.sf/\ax w.heap.size u m 9 b.sf.length)/\Z7 u l b.lo/\ax w.heap.size u l 9 b.lo.length)))
 clear c a
 go_wp2_with(first|(refine H8 H.out.ca rfl 27 _ rfl (j:=7) [vL q.fa b.fs.length q.fc] rfl rfl underlying27 rfl Y1 ?_)|(refine N8 H.out.ca rfl _ _ rfl rfl rfl Y1 ?_)|(refine WG H.out rfl 37 _ _ rfl (j:=5) [vL m b.sf.length B,vL l b.lo.length A] rfl rfl (Cb rfl) rfl Y1 ?_;clear H;intro V H))
 refine(c24 q.fa q.fc b.fs V d.out.fl (T.U5 f.out.fs H.out.bel)).mono ?_;rintro e V1⟨⟨J,y,rfl,a⟩,c⟩
 replace H:=U0 (H.out.call c (jQ a H.out.bel.size))
 clear c a
 go_wp2_with(first|(refine H8 H.out.ca rfl 30 _ rfl (j:=8) [vI b.s.wd,vL q.ta b.s.ts.length q.tc,vL q.ra b.s.rs.length q.rc] rfl rfl underlying30 rfl Y1 ?_)|(refine N8 H.out.ca rfl _ _ rfl rfl rfl Y1 ?_)|(refine WG H.out rfl 40 _ _ rfl (j:=7) [vL J b.fs.length y] rfl rfl (Cb rfl) rfl Y1 ?_;clear H;intro V H))
 refine(c25 q.ta q.ra q.tc q.rc b.s V d.out.st (f.out.st.below H.out.bel)).mono ?_;rintro e V1⟨⟨k,x,g,v,rfl,a⟩,c⟩
 replace H:=U0 (H.out.call c (a.imp λu h=>(⟨h.1,h.2.1.mono H.out.bel.size,h.2.2.1.mono H.out.bel.size,h.2.2.2⟩:Ef u k (some (aA g 0)) b.s/\StO w.heap.size u k g b.s)))
 clear c a
 go_wp2_with(first|(refine N8 H.out.ca rfl _ _ rfl rfl rfl Y1 ?_)|(refine WG H.out rfl 43 _ _ rfl (j:=8) [vI b.s.wd,vL k b.s.ts.length x,vL (some (aA g 0)) b.s.rs.length v] rfl rfl (Cb rfl) rfl Y1 ?_;clear H;intro V H))
 refine(a4d q.ha q.hc b.hd V d.out.hl (Jh f.out.hd H.out.bel)).mono ?_;rintro e V1⟨⟨_,rfl,I,t,rfl,_,a⟩,c⟩
 replace H:=U0 (H.out.call c (qU a H.out.bel.size))
 clear c a
 go_wp2_with(first|(refine N8 H.out.ca rfl _ _ rfl rfl rfl Y1 ?_)|(refine Qe H.out rfl 31 _ _ rfl (j:=11) (vL I b.hd.length t) rfl rfl rfl (Cb rfl) Y1 ?_;clear H;intro V H))
 refine(XW q.oa q.oc b.rt V d.out.rl (P6 f.out.rt H.out.bel)).mono ?_;rintro e V1⟨⟨_,rfl,F,r,rfl,S,a⟩,c⟩
 replace H:=U0 (H.out.call c (qU a H.out.bel.size))
 clear c a
 go_wp2_with(first|(refine N8 H.out.ca rfl _ _ rfl rfl rfl Y1 ?_)|(refine Qe H.out rfl 22 _ _ rfl (j:=12) (vL F b.rt.length r) rfl rfl rfl (Cb rfl) Y1 ?_;clear H;intro V H))
 refine(c28 q.na q.nc b.rn V d.out.nl (λi=>(d.out.ns i).2.2.1.1) (Ff f.out.rn H.out.bel)).mono ?_;rintro e V1⟨⟨_,rfl,E,p,rfl,a⟩,c⟩
 replace H:=U0 (H.out.call c (a1X a H.out.bel.size))
 clear c a
 go_wp2_with(first|(refine N8 H.out.ca rfl _ _ rfl rfl rfl Y1 ?_)|(refine Qe H.out rfl 44 _ _ rfl (j:=13) (vL (some (aA E 0)) b.rn.length p) rfl rfl rfl (Cb rfl) Y1 ?_;clear H;intro V H))
 refine(c29 q.ja q.jc b.jb V d.out.jl (Jm f.out.jb H.out.bel)).mono ?_;rintro e V1⟨⟨_,rfl,D,o,rfl,R,a⟩,c⟩
 replace H:=U0 (H.out.call c (jQ a H.out.bel.size))
 clear c a
 go_wp2_with(first|(refine N8 H.out.ca rfl _ _ rfl rfl rfl Y1 ?_)|(refine Qe H.out rfl 45 _ _ rfl (j:=14) (vL D b.jb.length o) rfl rfl rfl (Cb rfl) Y1 ?_;clear H;intro V H)|(refine xA H.out rfl 47 _ rfl [vI b.wd,.bool b.up,vI b.now,vI b.ep,vI b.ed,vL m b.sf.length B,vL l b.lo.length A,vL J b.fs.length y,vI b.s.wd,vL k b.s.ts.length x,vL (some (aA g 0)) b.s.rs.length v,vL I b.hd.length t,vL F b.rt.length r,vL (some (aA E 0)) b.rn.length p,vL D b.jb.length o] rfl rfl underlying47 rfl Y1 ?_)|(refine XA H.out rfl 47 _ _ rfl [vI b.wd,.bool b.up,vI b.now,vI b.ep,vI b.ed,vL m b.sf.length B,vL l b.lo.length A,vL J b.fs.length y,vI b.s.wd,vL k b.s.ts.length x,vL (some (aA g 0)) b.s.rs.length v,vL I b.hd.length t,vL F b.rt.length r,vL (some (aA E 0)) b.rn.length p,vL D b.jb.length o] rfl rfl rfl rfl Y1 ?_;clear H;intro z W a c))
 exact Q7 (J7 (P:=prog) (ty:=47) rfl _ z (w.heap.size+1) [vI b.wd,.bool b.up,vI b.now,vI b.ep,vI b.ed,vL m b.sf.length B,vL l b.lo.length A,vL J b.fs.length y,vI b.s.wd,vL k b.s.ts.length x,vL (some (aA g 0)) b.s.rs.length v,vL I b.hd.length t,vL F b.rt.length r,vL (some (aA E 0)) b.rn.length p,vL D b.jb.length o] _ rfl W underlying47 rfl Y1) rfl ⟨⟨⟨_,_,_,_,_,_,_,_,_,_,_,_,_,_,_,_,_,_⟩,rfl,by
  obtain⟨⟨⟨⟨⟨⟨⟨_,h1⟩,h2⟩,C⟩,Q⟩,O⟩,K⟩,N⟩:=a.now;exact⟨⟨h1.1.1,h1.2.1,h2.1,C.1,Q.1,O.1,K.1,N.1⟩,⟨S,R,U⟩,h1.1.2.ow,h1.2.2.ow,h2.2.ow,C.2.1.ow,a1W C.2.2.1 C.2.2.2,Q.2.ow,O.2.ow,a1W K.2.1 K.2.2,N.2.ow⟩⟩,c⟩
