import Derived.Test.YtdgneicbmalnpaaGreatDooryF
import Derived.Test.YtdgneicbmalnpaaGreatDoortV2
import Derived.Laws.CopyOwn
set_option linter.all false
set_option maxHeartbeats 0
set_option maxRecDepth 99999
open Go.Value renaming slice->Sa,string->Sb,int->Sc,pointer->Sd
open Go.IntKind renaming i64->Se
open Go.Ending renaming returned->Sf
open Go.Obj renaming cells->Sg
namespace Go.Proofs.YtdgneicbmalnpaaGreatDoor
open Proofs.Tryz Go.RowKit
theorem Yb(q:Nat)(h:q<1048577):IntKind.i64.wrap (q:Int)=(q:Int):=by
 have h1:(q:Int) % 2 ^ 64=q:=O0;simp only[IntKind.wrap,IntKind.bits,IntKind.signed,h1];rw[U7 L8]
theorem c208(ta ra:OA)(tc rc:Nat)(s:St)(w:World)(hs:s.le 1048576)(hat:xh w ta ra s):
 Calls prog 208 #[.agg #[Sc Se s.wd,Sa ta s.ts.length tc,Sa ra s.rs.length rc]] w λe w'=>Rb (Lh s) e/\Bw w w':=by
 have HS:=U0 hs;obtain⟨P,Z,hct⟩:=Aa hat.1;have HT:=U0 hct;obtain⟨br,orr,hcr⟩:=Hf hat.2;have HRc:=U0 hcr;have l:=hs.1.1;have hmm:=hs.2.1;clear hs hat hct hcr;obtain⟨f,p⟩:∃f,f=(w.alloc (Sg #[vI s.wd,vL ta s.ts.length tc,vL ra s.rs.length rc] 43)):=⟨_,rfl⟩;have HA0:=U0 p;have H:Bw w f:=by rw[p];exact U6
 have hAs:f.heap.size=w.heap.size+1:=by rw[p];simp
 have b0:f.cell? ⟨w.heap.size,0,none⟩=some (vI s.wd):=by rw[p];simp[go_sem]
 have b1:f.cell? ⟨w.heap.size,1,none⟩=some (vL ta s.ts.length tc):=by rw[p];simp[go_sem]
 have b2:f.cell? ⟨w.heap.size,2,none⟩=some (vL ra s.rs.length rc):=by rw[p];simp[go_sem]
 clear p;by_cases hW:1<=s.wd/\s.wd<=8
 ·have hd:decide (1<=s.wd/\s.wd<=8)=true:=by simpa using hW
  have HW:=U0 hW;by_cases a7c:300<s.ts.length
  ·have a:Hid (¬Lh s):=λh=>by have:=h.2.1.1;omega
   go_in
   go_wp2_with fail
   refine(c59 _ _).mono ?_;rintro e w'⟨rfl,rfl⟩;rw[hd];go_wp2;go_ret;exact⟨P5 a,HA0.o▸H⟩
  by_cases a7w:150<s.rs.length
  ·have a:Hid (¬Lh s):=λh=>by have:=h.2.2.1;omega
   go_in
   go_wp2_with fail
   refine(c59 _ _).mono ?_;rintro e w'⟨rfl,rfl⟩;rw[hd];go_wp2;go_ret;exact⟨P5 a,HA0.o▸H⟩
  go_in
  go_wp2_with fail
  refine(c59 _ _).mono ?_;rintro e w'⟨rfl,hw'⟩;obtain rfl:=hw';rw[hd];go_wp2;go_loopw[3] (λi wr=>∃(k:Nat),k<=s.ts.length/\i=Sc Se k/\Hid (∀j,j<k->StepT s.ts s.wd j)/\Below (w.heap.size+1) f wr) (λi _=>s.ts.length-(RowKit.intOf i).toNat);exact⟨0,Y4 _,rfl,λj h=>absurd h (U8 _),by rw[HA0.o];exact O4 _ _⟩;obtain⟨k,hk,rfl,D,hx⟩:=hrel;have n:=H.trans (hx.mono O0);have L:w.heap.size+1<=wr.heap.size:=by have:=hx.size;omega
  have Q:=(hx.cell J4).trans b0;have a1:=(hx.cell J4).trans b1;have a2:=(hx.cell J4).trans b2;by_cases d:k<s.ts.length
  ·obtain⟨ha,F,E⟩:=Ud HT.o d;subst ha;have HCL:=U0 E;have g0:=(n.cell (by exact F)).trans (E k d);have z:(s.ts.getD k ByteArray.empty).size<=1048700:=by have:=HS.o.1.2 k;omega
   have W:Hid (StepT s.ts s.wd k↔(∃c t,ZF (s.ts.getD k ByteArray.empty).data.toList c t true)/\(k=0\/Op.bytesLess (Y6 (s.ts.getD (k-1) ByteArray.empty) s.wd).toList (Y6 (s.ts.getD k ByteArray.empty) s.wd).toList=true)):=Iff.rfl;have V:Hid (∃x,x=s.ts.getD k ByteArray.empty):=⟨_,rfl⟩;obtain⟨x,A⟩:=V.o;rw[<- A]at g0 z W;clear A V E
   go_wp2_with fail
   refine(a6y x _ z).mono ?_;rintro e w2⟨⟨c,t,ok,rfl,hr,_⟩,hb2⟩;have hfl:=DU hr;have HFL:=U0 hfl;clear hr hfl;have B:Below (w.heap.size+1) f (w2.alloc (Sg #[vI c,vS (U3 t)] 117)):=(hx.trans (hb2.mono L)).alloc (X7 L hb2.size) _;have hA2:=H.trans (B.mono O0);clear hb2
   go_wp2_with fail
   generalize a8b:w2.alloc (Sg #[vI c,vS (U3 t)] 117)=R at*;clear a8b;cases ok
   ·have a:Hid (¬Lh s):=λh=>by have:=HFL.o.2 ((W.o.1 (h.2.1.2 k d)).1);cases this
    refine wp_region_held_drew (S:=(λ_=>True)) Y0 ?_ λhHeld=>?_
    · ((try dsimp only);(first|done|trivial))
    iterate 26 refine sq ?_
    refine wdn ?_;clear hHeld;go_wp2;go_ret;exact⟨P5 a,hA2.drew⟩
   cases k with
   | zero=>
    have o:Hid (∀j,j<0+1->StepT s.ts s.wd j):=λj hj=>by
     obtain rfl:j=0:=O0;exact W.o.2 ⟨HFL.o.1 rfl,.inl rfl⟩
    refine wp_region_held_drew (S:=(λ_=>True)) Y0 ?_ λhHeld=>?_
    · ((try dsimp only);(first|done|trivial))
    iterate 26 refine sq ?_
    refine wdn ?_;clear hHeld;go_wp2;go_roundw;exact⟨0+1,O0,by go_num,o,B.drew⟩;exact V9
   | succ q=>
    have hW2:w.heap.size+1<=R.heap.size:=by have:=B.size;omega
    have hz0:w.heap.size<R.heap.size:=O0;have hzb:P<R.heap.size:=O0;have k0:=(B.cell J4).trans b0;have k1:=(B.cell J4).trans b1;have k2:=(hA2.cell (by exact F)).trans (HCL q O0);have k3':=(hA2.cell (by exact F)).trans (HCL.o (q+1) d);have hys:(s.ts.getD q ByteArray.empty).size<=1048700:=by have:=HS.o.1.2 q;omega
    have hge:s.ts.getD (q+1) ByteArray.empty=x:=by
     have e1:=(n.cell (by exact F)).trans (HCL.o (q+1) d);rw[g0]at e1;simpa using e1.symm
    have k3:R.cell? ⟨P,Z+(q+1),none⟩=some (vS x):=by rw[k3',hge]
    have a7x:Hid (StepT s.ts s.wd (q+1)↔(∃c t,ZF x.data.toList c t true)/\(q+1=0\/Op.bytesLess (Y6 (s.ts.getD q ByteArray.empty) s.wd).toList (Y6 x s.wd).toList=true)):=W.o;have U:Hid (∃y,y=s.ts.getD q ByteArray.empty):=⟨_,rfl⟩;obtain⟨y,v⟩:=U.o;rw[<- v]at k2 hys a7x;have C:q<s.ts.length:=O0;have hq0:0<=(q:Int)+1:=O0;have hq1:(q:Int)+1<(s.ts.length:Int):=O0;have hwq:=Yb q O0;have a8V:=Yb (q+1) O0;have hqq:((q+1:Nat):Int)-1=(q:Int):=O0;clear v U k3' hge g0 W Q a1 a2;cases hy:Op.bytesLess (Y6 y s.wd).toList (Y6 x s.wd).toList
    all_goals
     refine wp_region_held_drew (S:=(λu=>u.cell? ⟨w.heap.size,0,none⟩=some (vI s.wd)/\u.cell? ⟨w.heap.size,1,none⟩=some (vL (some ⟨P,Z,none⟩) s.ts.length tc)/\u.cell? ⟨P,Z+q,none⟩=some (vS y)/\u.cell? ⟨P,Z+(q+1),none⟩=some (vS x))) Y0 ?_ λhHeld=>?_
     · ((try dsimp only);go_keep)
     refine y_ 0 ?_;refine y_ 1 ?_;refine y_ 2 ?_;refine y_ 3 ?_;refine y_ 4 ?_;refine y_ 5 ?_;refine y_ 6 ?_;refine y_ 7 ?_;refine y_ 8 ?_;refine y_ 9 ?_;refine y_ 10 ?_;refine y_ 11 ?_;refine y_ 12 ?_;refine y_ 13 ?_;refine y_ 15 ?_;refine y_ 16 ?_;refine y_ 17 ?_;refine y_ 18 ?_;refine y_ 19 ?_;refine y_ 20 ?_;refine y_ 21 ?_;refine rq 14 λK b=>?_;go_simp;refine(NC y s.wd _ hys).mono ?_;rintro e w3⟨rfl,hb3⟩;have Y:Hid (Bw R w3):=(O4 _ _).drew.trans hb3;have p30:=(Y.o.cell (by exact hz0)).trans k0;have p31:=(Y.o.cell (by exact hz0)).trans k1;have p32:=(Y.o.cell (by exact hzb)).trans k2;have p33:=(Y.o.cell (by exact hzb)).trans k3
     go_wp2_with fail
     clear hHeld;refine uT b λhHeld=>?_;clear b K;refine rq 22 λK b=>?_;go_simp;refine(NC x s.wd _ z).mono ?_;rintro e w4⟨rfl,hb4⟩;have J:=U0 (E5 Y hb4);have p40:=(J.o.cell (by exact hz0)).trans k0;have p41:=(J.o.cell (by exact hz0)).trans k1;have p42:=(J.o.cell (by exact hzb)).trans k2;have p43:=(J.o.cell (by exact hzb)).trans k3
     go_wp2_with fail
     clear hHeld;refine uT b λhHeld=>?_;clear b K
     iterate 3 refine sq ?_
     refine wdn ?_;clear hHeld
    ·have a:Hid (¬Lh s):=λh=>by
      have:=(a7x.o.1 (h.2.1.2 (q+1) d)).2;rcases this with h1|h1
      ·omega
      rw[hy]at h1;cases h1
     have hB4:=hA2.trans (J.o.mono O0);go_wp2;go_ret;exact⟨P5 a,hB4⟩
    have o:Hid (∀j,j<q+1+1->StepT s.ts s.wd j):=λj hj=>by
     rcases Z7 j (q+1)with h|h
     ·exact D j h
     obtain rfl:j=q+1:=O0;exact a7x.o.2 ⟨HFL.o.1 trivial,.inr hy⟩
    have hx4:=B.trans (J.o.mono hW2);go_wp2;go_roundw;exact⟨q+1+1,O0,by go_num,o,hx4⟩;exact V9
  have HTX:Hid (EL s.ts s.wd):=⟨O0,λi hi=>D.o i O0⟩;clear D
  go_wp2_with fail
  clear Q a1 a2 n L;go_loopw[6] (λi wr=>∃(k:Nat),k<=s.rs.length/\i=Sc Se k/\Hid (∀j,j<k->UG s.wd (s.rs.getD j d_))/\Below (w.heap.size+1) f wr) (λi _=>s.rs.length-(RowKit.intOf i).toNat);exact⟨0,Y4 _,rfl,λj h=>absurd h (U8 _),hx⟩;clear hx;obtain⟨k,hk,rfl,D,hx⟩:=hrel;obtain⟨wq,hwq⟩:∃wq,wq=wr:=⟨_,rfl⟩;subst hwq;have n:=H.trans (hx.mono O0);have L:w.heap.size+1<=wq.heap.size:=by have:=hx.size;omega
  have Q:=(hx.cell J4).trans b0;have a2:=(hx.cell J4).trans b2;by_cases d:k<s.rs.length
  ·obtain⟨ha,F,E⟩:=Ud HRc.o d;subst ha;obtain⟨ai,r,e0,e1,e2,e3⟩:=(E k d).below F n;have z:=HS.o.2.2 k;have V:Hid (∃x,x=s.rs.getD k d_):=⟨_,rfl⟩;obtain⟨x,A⟩:=V.o;rw[<- A]at e0 e1 e2 e3 z;have HX:=U0 A;have HGL:=U0 e3;obtain⟨x1,x2,x3,x4⟩:=z;have HX3:=U0 x3;clear A V E e3 x3;have X:Hid (¬UG s.wd x->¬Lh s):=λl h=>l (HX.o▸h.2.2.2 k d);have hAq:Bw wq (wq.alloc (Sg #[vS x.key,vL ai x.gs.length r,vS x.o] 179)):=U6;have hBq:Bw w (wq.alloc (Sg #[vS x.key,vL ai x.gs.length r,vS x.o] 179)):=n.alloc n.size _;have a0':=past (by show w.heap.size<wq.heap.size;omega) Q;by_cases h1:x.key.size<=321
   ·by_cases h2:(x.o.size:Int)=s.wd
    ·by_cases h3:x.gs.length<=15
     ·have HH:Hid (x.key.size<=321/\(x.o.size:Int)=s.wd/\x.gs.length<=15):=⟨h1,h2,h3⟩;go_wp2;go_loopw[8] (λi wr=>∃(q:Nat),q<=x.gs.length/\i=Sc Se q/\Hid (∀j,j<q->a1K s.wd (x.gs.getD j Jh))/\Below (wq.heap.size+1) (wq.alloc (Sg #[Sb x.key,Sa ai x.gs.length r,Sb x.o] 179)) wr) (λi _=>x.gs.length-(RowKit.intOf i).toNat);exact⟨0,Y4 _,rfl,λj h=>absurd h (U8 _),O4 _ _⟩;obtain⟨q,hq,rfl,hdg,O⟩:=hrel;have hBg:=hBq.trans (O.mono O0);have hqg:=hAq.trans (O.mono O0);have hzg:wq.heap.size+1<=wr.heap.size:=by have:=O.size;simpa using this
      have k0:=(hqg.cell (by show w.heap.size<wq.heap.size;omega)).trans Q;have k1:wr.cell? ⟨wq.heap.size,1,none⟩=some (vL ai x.gs.length r):=(O.cell J4).trans (by simp[go_sem]);by_cases C:q<x.gs.length
      ·obtain⟨m,g,hci⟩:=Ji (y9 HGL.o hqg);obtain⟨hai,a8W,hgc⟩:=Ud hci C;subst hai;have g1:=(hgc q C).2.1;have g2:=(hgc q C).2.2;have a8c:=(HX3 q).1;have U:Hid (∃y,y=x.gs.getD q Jh):=⟨_,rfl⟩;obtain⟨y,v⟩:=U.o;rw[<- v]at g1 g2 a8c;have HY:=U0 v;have hyl:y.tl.size<=1048700:=O0;clear v U hgc;cases l:Y5 y.tl.data.toList
       ·have a:Hid (¬Lh s):=X.o λh=>by have:=(h.2 q C).1;rw[<- HY.o,l]at this;cases this
        have I:=c21 y.tl;rw[l]at I
        go_wp2_with fail
        refine wp_region_held_drew (S:=(λu=>u.cell? ⟨w.heap.size,0,none⟩=some (vI s.wd)/\u.cell? ⟨wq.heap.size,1,none⟩=some (vL (some ⟨m,g,none⟩) x.gs.length r)/\u.cell? ⟨m,g+q*3+1,none⟩=some (vS y.tl)/\u.cell? ⟨m,g+q*3+2,none⟩=some (vS y.ar))) Y0 ?_ λhHeld=>?_
        · ((try dsimp only);go_keep)
        iterate 6 refine sq ?_
        refine rq 6 λK b=>?_;go_simp;refine(I _ hyl).mono ?_;rintro e wz⟨rfl,N⟩;obtain rfl:=N
        go_wp2_with fail
        clear hHeld;refine uT b λhHeld=>?_;clear b K
        iterate 13 refine sq ?_
        refine wdn ?_;clear hHeld;go_wp2;go_ret;exact⟨P5 a,hBg.drew⟩
       have I:=c21 y.tl;rw[l]at I;by_cases hw:(y.ar.size:Int)=s.wd
       ·have o:Hid (∀j,j<q+1->a1K s.wd (x.gs.getD j Jh)):=λj hj=>by
         rcases Z7 j q with h|h
         ·exact hdg j h
         obtain rfl:j=q:=O0;rw[<- HY.o];exact⟨l,hw⟩
        have hw':((y.ar.size:Int) !=s.wd)=false:=by simpa using hw
        clear l
        go_wp2_with fail
        refine wp_region_held_drew (S:=(λu=>u.cell? ⟨w.heap.size,0,none⟩=some (vI s.wd)/\u.cell? ⟨wq.heap.size,1,none⟩=some (vL (some ⟨m,g,none⟩) x.gs.length r)/\u.cell? ⟨m,g+q*3+1,none⟩=some (vS y.tl)/\u.cell? ⟨m,g+q*3+2,none⟩=some (vS y.ar))) Y0 ?_ λhHeld=>?_
        · ((try dsimp only);go_keep)
        iterate 6 refine sq ?_
        refine rq 6 λK b=>?_;go_simp;refine(I _ hyl).mono ?_;rintro e wz⟨rfl,N⟩;obtain rfl:=N
        go_wp2_with fail
        clear hHeld;refine uT b λhHeld=>?_;clear b K
        iterate 13 refine sq ?_
        refine wdn ?_;clear hHeld;go_wp2;go_roundw;exact⟨q+1,O0,by go_num,o,O.drew⟩;exact V9
       have a:=U0 (X.o λh=>hw (by have:=(h.2 q C).2;rw[<- HY.o]at this;exact this));have hw':((y.ar.size:Int) !=s.wd)=true:=by simpa using hw
       have hw2:((y.ar.size:Int)==s.wd)=false:=by simpa using hw
       clear l
       go_wp2_with fail
       refine wp_region_held_drew (S:=(λu=>u.cell? ⟨w.heap.size,0,none⟩=some (vI s.wd)/\u.cell? ⟨wq.heap.size,1,none⟩=some (vL (some ⟨m,g,none⟩) x.gs.length r)/\u.cell? ⟨m,g+q*3+1,none⟩=some (vS y.tl)/\u.cell? ⟨m,g+q*3+2,none⟩=some (vS y.ar))) Y0 ?_ λhHeld=>?_
       · ((try dsimp only);go_keep)
       iterate 6 refine sq ?_
       refine rq 6 λK b=>?_;go_simp;refine(I _ hyl).mono ?_;rintro e wz⟨rfl,N⟩;obtain rfl:=N
       go_wp2_with fail
       clear hHeld;refine uT b λhHeld=>?_;clear b K
       iterate 13 refine sq ?_
       refine wdn ?_;clear hHeld;go_wp2;go_ret;exact⟨P5 a,hBg.drew⟩
      have o:Hid (∀j,j<k+1->UG s.wd (s.rs.getD j d_)):=λj hj=>by
       rcases Z7 j k with h|h
       ·exact D j h
       obtain rfl:j=k:=O0;rw[<- HX.o];exact⟨HH.o,λi hi=>hdg.o i O0⟩
      have hxg:=hx.trans (hqg.mono L);go_wp2;go_roundw;exact⟨k+1,O0,by go_num,o,hxg⟩;exact V9
     have a:=U0 (X.o λh=>h3 h.1.2.2);have h3':15<x.gs.length:=O0;go_wp2;go_ret;exact⟨P5 a,hBq⟩
    have a:=U0 (X.o λh=>h2 h.1.2.1);have h2':((x.o.size:Int) !=s.wd)=true:=by simpa using h2
    have a8X:((x.o.size:Int)==s.wd)=false:=by simpa using h2
    go_wp2;go_ret;exact⟨P5 a,hBq⟩
   have a:=U0 (X.o λh=>h1 h.1.1);go_wp2;go_ret;exact⟨P5 a,hBq⟩
  have a:Hid (Lh s):=⟨HW,HTX,O0,λi hi=>D.o i O0⟩;go_wp2;go_ret;exact⟨H_ a,n⟩
 have hd:decide (1<=s.wd/\s.wd<=8)=false:=by simpa using hW
 have a:Hid (¬Lh s):=λh=>hW h.1
 go_in
 go_wp2_with fail
 refine(c59 _ _).mono ?_;rintro e w'⟨rfl,rfl⟩;rw[hd];go_wp2;go_ret;exact⟨P5 a,HA0.o▸H⟩
theorem c196(x:G3)(l:Int)(w:World)(hs:x.le 9223372036854775807)(h0:0<=l)(h1:l<=1048576):
 Calls prog 196 #[.agg #[.bool x.nm,Sb x.tl,Sb x.ar],Sc Se l] w λe w'=>(∃r:Int,e=Sf (Sc Se r)/\(0<=r->x.le 1048576/\r<=l))/\Bw w w':=by
 obtain⟨s2,s3⟩:=hs;have a:Hid (∀r:Int,(0<=r->((x.tl.size:Int)<=l/\(x.ar.size:Int)<=l/\r<=l))->(0<=r->x.le 1048576/\r<=l)):=λr h g=>by
  have:=h g;exact⟨⟨O0,O0⟩,O0⟩
 by_cases h':l<x.tl.size
 ·go_in
  go_wp2;go_ret;exact⟨⟨-1,rfl,a _ λh=>O0⟩,U6⟩
 by_cases h'':l<x.tl.size+x.ar.size
 ·go_in
  go_wp2;go_ret;exact⟨⟨-1,rfl,a _ λh=>O0⟩,U6⟩
 go_in
 go_wp2;go_ret;exact⟨⟨_,rfl,a _ λh=>O0⟩,U6⟩
theorem GH{is:List G3}{B:Nat}(h:∀i,i<is.length->(is.getD i Jh).le B)(i:Nat):(is.getD i Jh).le B:=by
 rcases Z7 i is.length with a|a
 ·exact h i a
 have e:is.getD i Jh=Jh:=by simp[List.getD,Eb a]
 rw[e];exact⟨Y4 _,Y4 _⟩
theorem a6d(a:OA)(cap:Nat)(is:List G3)(l:Int)(w:World)(h0:0<=l)(h1:l<=1048576)(hs:∀i,(is.getD i Jh).le 9223372036854775807)(hl:is.length<=9223372036854775807)(y:R_ w a is):
 Calls prog 144 #[Sa a is.length cap,Sc Se l] w λe w'=>(∃r:Int,e=Sf (Sc Se r)/\(0<=r->is.length<=1048576/\(∀i,(is.getD i Jh).le 1048576)/\r<=l-is.length))/\Bw w w':=by
 obtain⟨b,off,hc⟩:=Ji y;have A:=U0 hc;by_cases hbig:l<is.length
 ·go_in
  go_wp2;go_ret;exact⟨⟨-1,rfl,λh=>O0⟩,O4 _ _⟩
 go_in
 go_wp2;go_loopw[1,5] (λs i wr=>∃(k:Nat)(r:Int),k<=is.length/\i=Sc Se k/\s=Sc Se r/\0<=r/\r<=l-is.length/\Hid (∀i,i<k->(is.getD i Jh).le 1048576)/\Below w.heap.size w wr) (λ_ i _=>is.length-(RowKit.intOf i).toNat);exact⟨0,_,Y4 _,rfl,rfl,O0,O0,λi h=>absurd h (U8 _),O4 _ _⟩;obtain⟨k,r,hk,rfl,rfl,u,n,m,c⟩:=hrel;by_cases d:k<is.length
 ·obtain⟨ha,j,g⟩:=Ud A.o d;subst ha;have g0:=(c.cell (by exact j)).trans (g k d).1;have g1:=(c.cell (by exact j)).trans (g k d).2.1;have g2:=(c.cell (by exact j)).trans (g k d).2.2;have t:=hs k;generalize hx:is.getD k Jh=x at*;have z:=U0 hx
  go_wp2_with fail
  refine(c196 x r wr t u O0).mono ?_;rintro e w1⟨⟨q,rfl,hr⟩,v⟩;have p:=E5 c v;by_cases hneg:q<0
  ·clear hr;go_wp2;go_ret;exact⟨⟨-1,rfl,λh=>O0⟩,p⟩
  have o:=hr O0;have f:Hid (∀i,i<k+1->(is.getD i Jh).le 1048576):=by
   intro i h;rcases Z7 i k with h1|h1
   ·exact m i h1
   obtain rfl:i=k:=O0;rw[z.o];exact o.1
  go_wp2;go_roundw;exact⟨k+1,_,O0,by go_num,rfl,O0,Int.le_trans o.2 n,f,p⟩;exact V9
 have f:=U0 (GH (λi h=>m.o i O0));go_wp2;go_ret;exact⟨⟨r,rfl,λ_=>⟨O0,f.o,n⟩⟩,c⟩
theorem gI{is:List R3}{B:Nat}(h:∀i,i<is.length->(is.getD i d_).le B)(i:Nat):(is.getD i d_).le B:=by
 rcases Z7 i is.length with a|a
 ·exact h i a
 have e:is.getD i d_=d_:=by simp[List.getD,Eb a]
 rw[e];exact⟨Y4 _,Y4 _,λi=>⟨Y4 _,Y4 _⟩,Y4 _⟩
theorem c105(x:R3)(a:OA)(d:Nat)(l:Int)(w:World)(hs:x.le 9223372036854775807)(h0:0<=l)(h1:l<=1048576)(n:R_ w a x.gs):
 Calls prog 105 #[.agg #[Sb x.key,Sa a x.gs.length d,Sb x.o],Sc Se l] w λe w'=>(∃r:Int,e=Sf (Sc Se r)/\(0<=r->x.le 1048576/\r<=l-x.gs.length))/\Bw w w':=by
 obtain⟨s1,j,i,s4⟩:=hs;have c:Bw w (w.alloc (Sg #[vS x.key,vL a x.gs.length d,vS x.o] 166)):=U6;by_cases h:l<x.key.size
 ·go_in
  go_wp2;go_ret;exact⟨⟨-1,rfl,λh=>O0⟩,c⟩
 have o:=a6d a d x.gs (l-x.key.size) _ O0 O0 i j (y9 n c)
 go_in
 go_wp2_with fail
 refine o.mono ?_;rintro e w1⟨⟨f,rfl,hr⟩,g⟩;have b:=c.trans (g.mono J4);have g2:w1.cell? ⟨w.heap.size,2,none⟩=some (vS x.o):=by rw[g.cell J4];simp
 by_cases hneg:f<0
 ·clear hr;go_wp2;go_ret;exact⟨⟨-1,rfl,λh=>O0⟩,b⟩
 obtain⟨m,k,q3⟩:=hr O0;have p:=U0 k;by_cases ho:f<x.o.size
 ·go_wp2;go_ret;exact⟨⟨-1,rfl,λh=>O0⟩,b⟩
 go_wp2;go_ret;exact⟨⟨_,rfl,λh=>⟨⟨O0,m,p.o,O0⟩,O0⟩⟩,b⟩
theorem c56(a:OA)(cap:Nat)(is:List R3)(l:Int)(w:World)(h0:0<=l)(h1:l<=1048576)(hs:∀i,(is.getD i d_).le 9223372036854775807)(hl:is.length<=9223372036854775807)(y:ug w a is):
 Calls prog 56 #[Sa a is.length cap,Sc Se l] w λe w'=>(∃r:Int,e=Sf (Sc Se r)/\(0<=r->is.length<=1048576/\(∀i,(is.getD i d_).le 1048576)/\r<=l-is.length-WB is))/\Bw w w':=by
 obtain⟨b,off,hc⟩:=Hf y;have E:=U0 hc;have D:=U0 hs;by_cases hbig:l<is.length
 ·go_in
  go_wp2;go_ret;exact⟨⟨-1,rfl,λh=>O0⟩,O4 _ _⟩
 go_in
 go_wp2;go_loopw[1,5] (λp i wr=>∃(k:Nat)(r:Int),k<=is.length/\i=Sc Se k/\p=Sc Se r/\0<=r/\r<=l-is.length-WB (is.take k)/\Hid (∀i,i<k->(is.getD i d_).le 1048576)/\Below w.heap.size w wr) (λ_ i _=>is.length-(RowKit.intOf i).toNat);exact⟨0,_,Y4 _,rfl,rfl,O0,by simp[WB],λi h=>absurd h (U8 _),O4 _ _⟩;obtain⟨k,r,hk,rfl,rfl,s,j,g,f⟩:=hrel;by_cases d:k<is.length
 ·obtain⟨ha,u,t⟩:=Ud E.o d;subst ha;obtain⟨B,A,e0,e1,e2,z⟩:=(t k d).below u f;have q:=D.o k;have hgs:=YO d;generalize hx:is.getD k d_=x at*;have C:=U0 hx
  go_wp2_with fail
  refine(c105 x B A r wr q s O0 z).mono ?_;rintro e w1⟨⟨o,rfl,hr⟩,v⟩;have n:=E5 f v;by_cases hneg:o<0
  ·clear hr;go_wp2;go_ret;exact⟨⟨-1,rfl,λh=>O0⟩,n⟩
  have m:=hr O0;have c:Hid (∀i,i<k+1->(is.getD i d_).le 1048576):=by
   intro i h;rcases Z7 i k with h1|h1
   ·exact g i h1
   obtain rfl:i=k:=O0;rw[C.o];exact m.1
  have hr2:=m.2;go_wp2;go_roundw;exact⟨k+1,_,O0,by go_num,rfl,O0,O0,c,n⟩;exact V9
 have c:=U0 (gI (λi h=>g.o i O0));go_wp2;go_ret;exact⟨⟨r,rfl,λ_=>⟨O0,c.o,by rw[p_ O0]at j;exact j⟩⟩,f⟩
theorem c15(ta ra:OA)(tc rc:Nat)(s:St)(l:Int)(w:World)(h0:0<=l)(hl:l<=1048576)(hs:s.le 9223372036854775807)(g:xh w ta ra s):
 Calls prog 15 #[.agg #[Sc Se s.wd,Sa ta s.ts.length tc,Sa ra s.rs.length rc],Sc Se l] w λe w'=>(∃r:Int,e=Sf (Sc Se r)/\(0<=r->(s.le 1048576/\s.ts.length+s.rs.length+WB s.rs<=1048576)/\r<=l))/\Bw w w':=by
 obtain⟨⟨h1,h2⟩,t,j⟩:=hs;have a:Bw w (w.alloc (Sg #[vI s.wd,vL ta s.ts.length tc,vL ra s.rs.length rc] 30)):=U6;have c:=(Hid.o (show Hid (xh _ ta ra s) from g.below a));have m:=c17 ta tc s.ts l _ h0 hl h2 h1 c.1;have x:=U0 j;have u:=U0 c.2;clear g c j h2
 go_in
 go_wp2_with fail
 refine m.mono ?_;rintro e w1⟨⟨d,rfl,hr⟩,hw⟩;obtain rfl:=hw;clear m;by_cases p:d<0
 ·clear hr;go_wp2;go_ret;exact⟨⟨-1,rfl,λh=>O0⟩,a⟩
 obtain⟨o,f,q3⟩:=hr O0;have v:=U0 f;clear hr f;have k:=c56 ra rc s.rs d _ O0 O0 x.o t u.o
 go_wp2_with fail
 refine k.mono ?_;rintro e w2⟨⟨n,rfl,hr⟩,q⟩;have i:=a.trans (q.mono J4);have b:=U0 hr;clear k hr;by_cases p:n<0
 ·go_wp2;go_ret;exact⟨⟨-1,rfl,λh=>O0⟩,i⟩
 have hr2:=(b.o O0).2.2;go_wp2;go_ret;exact⟨⟨_,rfl,λh=>⟨⟨⟨⟨o,v.o⟩,(b.o h).1,(b.o h).2.1⟩,O0⟩,O0⟩⟩,i⟩
theorem c138(c:Int)(s:BY)(w:World):
 Calls prog 138 #[.agg #[Sc Se c,Sb s],.agg #[Sc Se c,Sb s]] w λe w'=>e=Sf (.bool true)/\Bw w w':=by
 go_in
 go_wp2;go_ret;exact⟨rfl,U6.alloc J4 _⟩
theorem UI{is:List L4}{B:Nat}(h:∀i,i<is.length->(is.getD i K_).le B)(i:Nat):(is.getD i K_).le B:=by
 rcases Z7 i is.length with a|a
 ·exact h i a
 have e:is.getD i K_=K_:=by simp[List.getD,Eb a]
 rw[e];exact⟨Y4 _,Y4 _⟩
theorem a6k(x:L4)(w:World):
 Calls prog 192 #[.agg #[.bool x.has,Sb x.nm,Sc Se x.cd,Sb x.tx],.agg #[.bool x.has,Sb x.nm,Sc Se x.cd,Sb x.tx]] w λe w'=>e=Sf (.bool true)/\Bw w w':=by
 go_in
 go_wp2_with fail
 have hB:∀o1 o2,Bw w ((w.alloc o1).alloc o2):=λo1 o2=>U6.alloc J4 _;refine(c138 x.cd x.tx _).mono ?_;rintro e w1⟨rfl,a⟩;go_wp2;go_ret;exact⟨rfl,(hB _ _).trans (a.mono L8)⟩
theorem a5L(a o:OA)(cap r:Nat)(is:List L4)(w:World)(hl:is.length<=1048576)(n:O9 w a is)(m:O9 w o is):
 Calls prog 136 #[Sa a is.length cap,Sa o is.length r] w λe w'=>e=Sf (.bool true)/\Bw w w':=by
 obtain⟨b,off,hc⟩:=uh n;have t:=U0 hc;clear hc n;obtain⟨b',off',l⟩:=uh m;have s:=U0 l;clear l m
 go_in
 go_wp2;go_loopw[5] (λi wr=>∃(k:Nat),k<=is.length/\i=Sc Se k/\Below w.heap.size w wr) (λi _=>is.length-(RowKit.intOf i).toNat);exact⟨0,Y4 _,rfl,O4 _ _⟩;obtain⟨k,hk,rfl,c⟩:=hrel;by_cases d:k<is.length
 ·obtain⟨ha,j,g⟩:=Ud t.o d;obtain⟨q,h,f⟩:=Ud s.o d;subst ha;subst q;have g0:=(c.cell (by exact j)).trans (g k d).1;have g1:=(c.cell (by exact j)).trans (g k d).2.1;have g2:=(c.cell (by exact j)).trans (g k d).2.2.1;have g3:=(c.cell (by exact j)).trans (g k d).2.2.2;have g0':=(c.cell (by exact h)).trans (f k d).1;have g1':=(c.cell (by exact h)).trans (f k d).2.1;have g2':=(c.cell (by exact h)).trans (f k d).2.2.1;have g3':=(c.cell (by exact h)).trans (f k d).2.2.2;generalize is.getD k K_=x at*;clear g f
  go_wp2_with fail
  go_region_with(go_at_call 192;refine(a6k x _).mono ?_;rintro e w1⟨rfl,p⟩)
  all_goals go_wp2
  all_goals go_roundw
  all_goals first
   | exact⟨k+1,O0,by go_num,(c.drew).trans (p.mono c.size)⟩
   | (exact V9)
 go_wp2;go_ret;exact⟨rfl,c⟩
theorem c107(cd:Int)(tx:BY)(l:Int)(w:World)(hs:tx.size<=9223372036854775807)(h0:0<=l)(h1:l<=1048576):
 Calls prog 107 #[.agg #[Sc Se cd,Sb tx],Sc Se l] w λe w'=>(∃r:Int,e=Sf (Sc Se r)/\(0<=r->tx.size<=1048576/\r<=1048576))/\Bw w w':=by
 by_cases h':l<tx.size
 ·go_in
  go_wp2;go_ret;exact⟨⟨-1,rfl,λh=>O0⟩,U6⟩
 go_in
 go_wp2;go_ret;exact⟨⟨_,rfl,λh=>O0⟩,U6⟩
theorem c145(x:L4)(l:Int)(w:World)(hs:x.le 9223372036854775807)(h0:0<=l)(h1:l<=1048576):
 Calls prog 145 #[.agg #[.bool x.has,Sb x.nm,Sc Se x.cd,Sb x.tx],Sc Se l] w λe w'=>(∃r:Int,e=Sf (Sc Se r)/\(0<=r->x.le 1048576/\r<=1048576))/\Bw w w':=by
 obtain⟨s2,c⟩:=hs;by_cases h':l<x.nm.size
 ·go_in
  go_wp2;go_ret;exact⟨⟨-1,rfl,λh=>O0⟩,U6⟩
 have f:=λu=>c107 x.cd x.tx (l-x.nm.size) u c O0 O0
 go_in
 go_wp2_with fail
 refine(f _).mono ?_;rintro e w1⟨⟨r,rfl,hr⟩,d⟩;have b:=U6.trans (d.mono J4);by_cases hn:r<0
 ·clear hr;go_wp2;go_ret;exact⟨⟨-1,rfl,λh=>O0⟩,b⟩
 have a:=hr O0;clear hr;go_wp2;go_ret;exact⟨⟨r,rfl,λh=>⟨⟨O0,a.1⟩,a.2⟩⟩,b⟩
theorem a6w(a:OA)(cap:Nat)(is:List L4)(l:Int)(w:World)(h0:0<=l)(h1:l<=1048576)(hs:∀i,(is.getD i K_).le 9223372036854775807)(hl:is.length<=9223372036854775807)(p:O9 w a is):
 Calls prog 106 #[Sa a is.length cap,Sc Se l] w λe w'=>(∃r:Int,e=Sf (Sc Se r)/\(0<=r->is.length<=1048576/\(∀i,(is.getD i K_).le 1048576)/\r<=1048576))/\Bw w w':=by
 obtain⟨b,off,hc⟩:=uh p;have z:=U0 hc;clear hc p;by_cases hbig:l<is.length
 ·go_in
  go_wp2;go_ret;exact⟨⟨-1,rfl,λh=>O0⟩,O4 _ _⟩
 go_in
 go_wp2;go_loopw[1,5] (λl i wr=>∃(k:Nat)(r:Int),k<=is.length/\i=Sc Se k/\l=Sc Se r/\0<=r/\r<=1048576/\Hid (∀i,i<k->(is.getD i K_).le 1048576)/\Below w.heap.size w wr) (λ_ i _=>is.length-(RowKit.intOf i).toNat);exact⟨0,_,Y4 _,rfl,rfl,O0,O0,λi h=>absurd h (U8 _),O4 _ _⟩;obtain⟨k,r,hk,rfl,rfl,u,n,m,c⟩:=hrel;by_cases d:k<is.length
 ·obtain⟨ha,g,f⟩:=Ud z.o d;subst ha;have g0:=(c.cell (by exact g)).trans (f k d).1;have g1:=(c.cell (by exact g)).trans (f k d).2.1;have g2:=(c.cell (by exact g)).trans (f k d).2.2.1;have g3:=(c.cell (by exact g)).trans (f k d).2.2.2;have t:=hs k;generalize hx:is.getD k K_=x at*;have y:=U0 hx;clear hx f
  go_wp2_with fail
  refine(c145 x r wr t u n).mono ?_;rintro e w1⟨⟨s,rfl,hr⟩,v⟩;have q:=E5 c v;by_cases hneg:s<0
  ·clear hr;go_wp2;go_ret;exact⟨⟨-1,rfl,λh=>O0⟩,q⟩
  have o:=hr O0;have j:Hid (∀i,i<k+1->(is.getD i K_).le 1048576):=by
   intro i h;rcases Z7 i k with h1|h1
   ·exact m.o i h1
   obtain rfl:i=k:=O0;rw[y.o];exact o.1
  clear hr;go_wp2;go_roundw;exact⟨k+1,_,O0,by go_num,rfl,O0,o.2,j,q⟩;exact V9
 have j:=U0 (UI (λi h=>m.o i O0));go_wp2;go_ret;exact⟨⟨r,rfl,λ_=>⟨O0,j.o,n⟩⟩,c⟩
theorem a3h(b:Bool)(s:BY)(w:World)(hs:s=if b=true then⟨#[49]⟩ else⟨#[48]⟩):Calls prog 254 #[.bool b] w λe w'=>e=Sf (Sb s)/\Bw w w':=by
 subst hs;exact a4R b w
theorem a4W(m:M3)(ls:List L4)(c:Int)(t:BY)(W:Int)(a:OA)(cap:Nat)(w:World)(hm:m.le 1048600)(ht:t.size<=1048700)(hf:(U3 (b_ c t.data.toList)).size<=1048700)(hl:ls.length<=1048576)(hs:∀i,(ls.getD i K_).tx.size<=1048600/\(Qs (ls.getD i K_)).size<=1048700)(hat:O9 w a ls):
 Calls prog 211 #[.agg #[Sb m.nm,Sb m.tl,Sb m.ar],Sa a ls.length cap,.agg #[Sc Se c,Sb t],Sc Se W] w λe w'=>(∃v,e=Sf (.agg #[Sb (rf m),v,Sb (Y6 (U3 (b_ c t.data.toList)) W)])/\w'.ownsRow w.heap.size 235 3 v ls.length (SG W ls))/\Bw w w':=by
 have hm1:=hm.2.1;have hm2:=hm.2.2;have hk1:¬9223372036854775807<m.tl.size+1:=O0;have hk2:¬9223372036854775807<m.tl.size+1+m.ar.size:=O0;have HL:=U0 hat
 go_in
 go_upto_region 1 with fail
 have hB0:Bw w (((w.alloc (Sg #[Sb m.nm,Sb m.tl,Sb m.ar] 142)).alloc (Sg #[Sc Se c,Sb t] 117)).alloc (Sg #[Sb ⟨#[]⟩,Sa none 0 0,Sb ⟨#[]⟩] 179)):=(U6.alloc J4 _).alloc L8 _;have O:Hid ((Cl (((w.alloc (Sg #[Sb m.nm,Sb m.tl,Sb m.ar] 142)).alloc (Sg #[Sc Se c,Sb t] 117)).alloc (Sg #[Sb ⟨#[]⟩,Sa none 0 0,Sb ⟨#[]⟩] 179)) w.heap.size 142 [Sb m.nm,Sb m.tl,Sb m.ar]/\Cl (((w.alloc (Sg #[Sb m.nm,Sb m.tl,Sb m.ar] 142)).alloc (Sg #[Sc Se c,Sb t] 117)).alloc (Sg #[Sb ⟨#[]⟩,Sa none 0 0,Sb ⟨#[]⟩] 179)) (w.heap.size+1) 117 [Sc Se c,Sb t])/\Cl (((w.alloc (Sg #[Sb m.nm,Sb m.tl,Sb m.ar] 142)).alloc (Sg #[Sc Se c,Sb t] 117)).alloc (Sg #[Sb ⟨#[]⟩,Sa none 0 0,Sb ⟨#[]⟩] 179)) (w.heap.size+2) 179 [Sb ⟨#[]⟩,Sa none 0 0,Sb ⟨#[]⟩]):=⟨⟨E8 (E8 (I4 w [Sb m.nm,Sb m.tl,Sb m.ar] 142) _) _,E8 (by have h:=I4 (w.alloc (Sg #[Sb m.nm,Sb m.tl,Sb m.ar] 142)) [Sc Se c,Sb t] 117;simpa using h) _⟩,by have h:=I4 ((w.alloc (Sg #[Sb m.nm,Sb m.tl,Sb m.ar] 142)).alloc (Sg #[Sc Se c,Sb t] 117)) [Sb ⟨#[]⟩,Sa none 0 0,Sb ⟨#[]⟩] 179;simpa using h⟩;generalize ((w.alloc (Sg #[Sb m.nm,Sb m.tl,Sb m.ar] 142)).alloc (Sg #[Sc Se c,Sb t] 117)).alloc (Sg #[Sb ⟨#[]⟩,Sa none 0 0,Sb ⟨#[]⟩] 179)=V at*;have F:Hid (∀u,Bw V u->(Cl u w.heap.size 142 [Sb m.nm,Sb m.tl,Sb m.ar]/\Cl u (w.heap.size+1) 117 [Sc Se c,Sb t])/\Cl u (w.heap.size+2) 179 [Sb ⟨#[]⟩,Sa none 0 0,Sb ⟨#[]⟩]/\Bw w u/\O9 u a ls):=λu C=>⟨⟨O.o.1.1.below C O.o.1.1.lt,O.o.1.2.below C O.o.1.2.lt⟩,O.o.2.below C O.o.2.lt,E5 hB0 C,Q7 HL (E5 hB0 C)⟩;have hVz:=O.o.2.lt
 go_cut[9] from 10 (λs U=>∃A,s=Sd (some ⟨A,0,none⟩)/\V.heap.size<=A/\Hid (Cl U A 179 [Sb (rf m),Sa none 0 0,Sb (Y6 (U3 (b_ c t.data.toList)) W)])/\Hid (Bw V U))
 case first=>
  have d:Bw V V.drew:=(O4 _ _).drew;refine wp_region_held_drew (S:=λu=>Cl u w.heap.size 142 [Sb m.nm,Sb m.tl,Sb m.ar]/\Cl u (w.heap.size+1) 117 [Sc Se c,Sb t]) Y0 (F.o _ d).1 λhH=>?_;generalize V.drew=y at*;refine sq ?_;refine tq 1 hH ?_ (hv:=λu C=>SA 9 _ rfl (B:=w.heap.size) (j:=1) rfl (C.1.cell 1) Y0)
  try simp only[qq]
  iterate 2 refine sq ?_
  refine tq 4 hH ?_ (hv:=λu C=>SA 9 _ rfl (B:=w.heap.size) (j:=2) rfl (C.1.cell 2) Y0)
  try simp only[qq]
  refine sq ?_;refine tq 6 hH ?_ (hv:=λu C=>N9 117 _ rfl (B:=w.heap.size+1) (j:=0) (cs:=[Sc Se c,Sb t]) rfl (λq v e=>by rw[Y8];exact(C.2.cell q).trans e) underlying117 rfl Y0)
  try simp only[qq]
  refine y_ 8 ?_;refine wpAnyH_ready (rs:=[7,11]) Y0 J4 ?_;refine AllReadyH.cons (o:=⟨some 19,.call ⟨.value (.func 210),#[.tmp 18],#[117]⟩,9,_,_,none⟩) rfl (λK g=>?_) (AllReadyH.cons (o:=⟨some 9,.alloc 179,0,_,_,none⟩) rfl (λK g=>?_) AllReadyH.nil);rotate_left
  focus
   go_simp;have r:=U0 (I4 y [Sb ⟨#[]⟩,Sa none 0 0,Sb ⟨#[]⟩] 179);have hA:=d.size
   replace d:=E5 d (U6 (w:=y) (o:=Sg #[Sb ⟨#[]⟩,Sa none 0 0,Sb ⟨#[]⟩] 179))
   refine G9 g (F _ d).1 λhH=>?_;generalize y.alloc (Sg #[Sb ⟨#[]⟩,Sa none 0 0,Sb ⟨#[]⟩] 179)=ya at*;refine rq 7 λK g=>?_;go_simp;refine(c210 c t _ ht).mono ?_;rintro e u0⟨rfl,f⟩
   replace r:=U0 (r.o.below f r.o.lt)
   replace d:=E5 d f
   go_simp;refine G9 g (F _ d).1 λhH=>?_;refine rq 9 λK g=>?_;go_simp;refine(NC _ W _ hf).mono ?_;rintro e u1⟨rfl,f⟩
   replace r:=U0 (r.o.below f r.o.lt)
   replace d:=E5 d f
   go_simp;refine G9 g (F _ d).1 λhH=>?_;refine sq ?_;refine rq 12 λK g=>?_;refine qc rfl 179 _ _ rfl (j:=0) rfl rfl r A8 (X5 rfl) Y0 ?_
  rotate_left
  focus
   go_simp;refine(c210 c t _ ht).mono ?_;rintro e u0⟨rfl,f⟩
   replace d:=E5 d f
   go_simp;refine G9 g (F _ d).1 λhH=>?_;refine wpAnyH_ready (rs:=[9,11]) Y0 J4 ?_;refine AllReadyH.cons (o:=⟨some 21,.call ⟨.value (.func 253),#[.tmp 19,.tmp 20],#[9,3]⟩,9,_,_,none⟩) rfl (λK g=>?_) (AllReadyH.cons (o:=⟨some 9,.alloc 179,0,_,_,none⟩) rfl (λK g=>?_) AllReadyH.nil);rotate_left
   ·go_simp;have r:=U0 (I4 u0 [Sb ⟨#[]⟩,Sa none 0 0,Sb ⟨#[]⟩] 179);have hA:=d.size
    replace d:=E5 d (U6 (w:=u0) (o:=Sg #[Sb ⟨#[]⟩,Sa none 0 0,Sb ⟨#[]⟩] 179))
    refine G9 g (F _ d).1 λhH=>?_;generalize u0.alloc (Sg #[Sb ⟨#[]⟩,Sa none 0 0,Sb ⟨#[]⟩] 179)=ya at*;refine rq 9 λK g=>?_;go_simp;refine(NC _ W _ hf).mono ?_;rintro e u1⟨rfl,f⟩
    replace r:=U0 (r.o.below f r.o.lt)
    replace d:=E5 d f
    go_simp;refine G9 g (F _ d).1 λhH=>?_;refine sq ?_;refine rq 12 λK g=>?_;refine qc rfl 179 _ _ rfl (j:=0) rfl rfl r A8 (X5 rfl) Y0 ?_;intro z H D
    replace d:=d.trans (D.below hA)
    have CZ:=U0 H;refine G9 g (F _ d).1 λhH=>?_;refine wdn ?_
    go_wp2_with fail
    go_meet
    exact⟨_,rfl,hA,CZ,d⟩
   go_simp;refine(NC _ W _ hf).mono ?_;rintro e u1⟨rfl,f⟩
   replace d:=E5 d f
   go_simp;refine G9 g (F _ d).1 λhH=>?_;refine sq ?_;refine rq 11 λK g=>?_;go_simp;have r:=U0 (I4 u1 [Sb ⟨#[]⟩,Sa none 0 0,Sb ⟨#[]⟩] 179);have hA:=d.size
   replace d:=E5 d (U6 (w:=u1) (o:=Sg #[Sb ⟨#[]⟩,Sa none 0 0,Sb ⟨#[]⟩] 179))
   refine G9 g (F _ d).1 λhH=>?_;generalize u1.alloc (Sg #[Sb ⟨#[]⟩,Sa none 0 0,Sb ⟨#[]⟩] 179)=ya at*;refine rq 12 λK g=>?_;refine qc rfl 179 _ _ rfl (j:=0) rfl rfl r A8 (X5 rfl) Y0 ?_
  all_goals
   intro z H D
   replace d:=d.trans (D.below hA)
   have CZ:=U0 H;refine G9 g (F _ d).1 λhH=>?_;refine wdn ?_
   go_wp2_with fail
   go_meet
   exact⟨_,rfl,hA,CZ,d⟩
 obtain⟨A,rfl,hA,r,BV⟩:=hcut;obtain⟨_,CR,BW,_⟩:=F.o _ BV.o;obtain⟨b,off,hc⟩:=uh (F.o V (O4 _ _)).2.2.2;have BE:=U0 BV.o;have HR:=U0 CR;have HB:=U0 BW;have hAw:=r.o.lt;have hRw:=CR.lt;generalize wc=E at*;have HK:=U0 hc;go_wp2;go_loopw[10] (λi wr=>∃(k:Nat)(v:Value),k<=ls.length/\i=Sc Se k/\Hid (Cl wr A 179 [Sb (rf m),v,Sb (Y6 (U3 (b_ c t.data.toList)) W)])/\Hid (wr.ownsRow E.heap.size 235 3 v k (SG W (ls.take k)))/\But A E wr) (λi _=>ls.length-(RowKit.intOf i).toNat);exact⟨0,Sa none 0 0,Y4 _,rfl,r,M_ _ _ _ _,But.refl _ _⟩;obtain⟨k,v,hk,rfl,CAr,X,BT⟩:=hrel;obtain⟨av,cv,rfl⟩:=x9 X.o;have sz:=BT.size;by_cases R:k<ls.length;rotate_left
 ·obtain rfl:k=ls.length:=O0;have CR:=U0 ((BT.block (w.heap.size+2) O0 O0).trans HR)
  go_wp2_with(first|(refine yc CAr.o rfl 179 _ rfl rfl underlying179 rfl Y0 ?_)|(refine N7 rfl 179 _ _ rfl (j:=0) rfl rfl CR.o A8 (X5 rfl) Y0 ?_;intro z H D))
  refine P7 (l7 (P:=prog) (ty:=179) rfl _ z (w.heap.size+2) [Sb (rf m),Sa av ls.length cv,Sb (Y6 (U3 (b_ c t.data.toList)) W)] _ rfl H.blk underlying179 rfl Y0) rfl ⟨⟨_,rfl,?_⟩,(HB.o.trans (BT.below O0 O0)).trans (D.below O0)⟩;have h:=X.o;rw[Xt]at h;exact I7 (jy h (Vf D.size.symm) (λq _ N=>D.block q N) O0) O0
 obtain⟨ha,hbw,hcell⟩:=Ud HK.o R;subst ha;have I:Hid (∀u,Bw wr u->(∀i v,([.bool (ls.getD k K_).has,Sb (ls.getD k K_).nm,Sc Se (ls.getD k K_).cd,Sb (ls.getD k K_).tx]:List Value)[i]?=some v->u.cell? ⟨b,off+k*4+i,none⟩=some v)/\Cl u A 179 [Sb (rf m),Sa av k cv,Sb (Y6 (U3 (b_ c t.data.toList)) W)]/\u.ownsRow E.heap.size 235 3 (Sa av k cv) k (SG W (ls.take k))/\But A E u):=λu C=>by
  have hB:=BT.trans (But.of_below C);refine⟨λi v e=>?_,CAr.o.below C CAr.o.lt,own_below X C,hB⟩;rw[hB.cell (p:=⟨b,off+k*4+i,none⟩) (P9 hbw BE.o.size) (by show b≠A;omega),BE.o.cell (p:=⟨b,off+k*4+i,none⟩) hbw]
  match i,e with
  | 0,e=>cases e;exact(hcell k R).1
  | 1,e=>cases e;exact(hcell k R).2.1
  | 2,e=>cases e;exact(hcell k R).2.2.1
  | 3,e=>cases e;exact(hcell k R).2.2.2
 have HT:=U0 (Hw R);have hxs:=hs k;have hDn:=U0 (λq Q=>o_ X (k:=q) Q);have hOb:=U0 (λq Q=>X4 X (k:=q) Q);generalize ls.getD k K_=x at*
 go_upto_region 5 with fail
 have l:Bw wr wr.drew:=(O4 _ _).drew;refine wp_region_held_drew (S:=λu=>u.cell? ⟨b,off+k*4,none⟩=some (.bool x.has)/\u.cell? ⟨b,off+k*4+1,none⟩=some (Sb x.nm)) Y0 ⟨(I _ l).1 0 _ rfl,(I _ l).1 1 _ rfl⟩ λhH=>?_
 iterate 11 refine sq ?_
 refine rq 11 λK g=>?_;go_simp;have n:Hid (Cl (wr.alloc (Sg #[.bool false,Sb ⟨#[]⟩,Sb ⟨#[]⟩] 235)).drew wr.heap.size 235 [.bool false,Sb ⟨#[]⟩,Sb ⟨#[]⟩]):=I4 wr [.bool false,Sb ⟨#[]⟩,Sb ⟨#[]⟩] 235
 replace l:=(U6 (w:=wr) (o:=Sg #[.bool false,Sb ⟨#[]⟩,Sb ⟨#[]⟩] 235)).drew
 generalize (wr.alloc (Sg #[.bool false,Sb ⟨#[]⟩,Sb ⟨#[]⟩] 235)).drew=y1 at*;refine G9 g ⟨(I _ l).1 0 _ rfl,(I _ l).1 1 _ rfl⟩ λhH=>?_;refine rq 12 λK g=>?_;refine qc rfl 235 _ _ rfl (j:=0) rfl rfl n A8 (X5 rfl) Y0 ?_;intro z H D
 replace l:=l.trans (D.below A8)
 replace n:Hid (Cl z wr.heap.size 235 [.bool x.has,Sb x.nm,Sb ⟨#[]⟩]):=H
 refine G9 g ⟨(I _ l).1 0 _ rfl,(I _ l).1 1 _ rfl⟩ λhH=>?_;refine wdn ?_
 go_upto_if 41 with(refine J7 n.o rfl _ _ rfl rfl rfl Y0 ?_)
 try simp only[qq]
 go_cut[] from 29 to 61 (λU=>Hid (Cl U wr.heap.size 235 [.bool x.has,Sb x.nm,Sb (Y6 (Qs x) W)])/\Hid (Bw wr U))
 case first=>
  cases hh:x.has
  ·have Z:=U0 (show Qs x=U3 (b_ x.cd x.tx.data.toList) by simp[Qs,hh])
   go_wp2_with(refine Oa rfl (N9 117 _ rfl (B:=b) (j:=off+k*4+2) (cs:=[Sc Se x.cd,Sb x.tx]) rfl (λi v e=>by rw[Qw];exact(I.o _ l).1 (2+i) v (by match i,e with|0,e=>exact e|1,e=>exact e)) underlying117 rfl Y0) ?_)
   refine(c210 x.cd x.tx z O0).mono ?_;rintro e u1⟨rfl,f⟩
   replace n:=U0 (n.o.below f n.o.lt)
   replace l:=E5 l f
   go_wp2_with fail
   refine(NC _ W u1 (Z.o▸hxs.2)).mono ?_;rintro e u2⟨rfl,f⟩
   replace n:=U0 (n.o.below f n.o.lt)
   replace l:=E5 l f
   go_wp2_with(refine Qc rfl 9 _ _ rfl (p:=2) rfl rfl Y0 n.o (Xa rfl) ?_;intro z2 H D)
   try simp only[qq]
   go_meet
   exact⟨by show Cl _ _ _ _;rw[Z.o];exact H.o,l.trans (D.below A8)⟩
  have Z:=U0 (show Qs x=if (x.cd==0)=true then⟨#[49]⟩ else⟨#[48]⟩ by simp[Qs,hh])
  go_wp2_with(refine Oa rfl (SA 3 _ rfl (B:=b) (j:=off+k*4+2) rfl ((I.o _ l).1 2 _ rfl) Y0) ?_)
  refine(a3h _ (Qs x) z Z).mono ?_;rintro e u1⟨rfl,f⟩
  replace n:=U0 (n.o.below f n.o.lt)
  replace l:=E5 l f
  go_wp2_with fail
  refine(NC _ W u1 hxs.2).mono ?_;rintro e u2⟨rfl,f⟩
  replace n:=U0 (n.o.below f n.o.lt)
  replace l:=E5 l f
  go_wp2_with(refine Qc rfl 9 _ _ rfl (p:=2) rfl rfl Y0 n.o (Xa rfl) ?_;intro z2 H D)
  try simp only[qq]
  go_meet
  exact⟨H,l.trans (D.below A8)⟩
 obtain⟨CY,BY⟩:=hcut;obtain⟨_,c2,h3,h4⟩:=I.o _ BY.o;have C2:=U0 c2;have H3:=U0 h3;have H4:=U0 h4;have hz:=CY.o.lt;generalize wc=Y at*;have b3:Bw Y (Y.alloc (Sg #[.bool x.has,Sb x.nm,Sb (Y6 (Qs x) W)] 235)):=U6;have HS:=U0 (I4 Y [.bool x.has,Sb x.nm,Sb (Y6 (Qs x) W)] 235);have C3:=U0 (C2.o.below b3 C2.o.lt);have H5:=U0 (own_below H3 b3);have J:=U0 (H4.o.trans (But.of_below b3))
 go_wp2_with(first|(refine yc CY.o rfl 235 _ rfl rfl underlying235 rfl Y0 ?_)|(refine J7 C2.o rfl 177 _ rfl rfl rfl Y0 ?_)|(refine Lc rfl _ _ 177 rfl E.heap.size 235 3 underlying177 (Jc Y0) U5 _ k (SG W (ls.take k)) rfl H5.o _ 1 [.bool x.has,Sb x.nm,Sb (Y6 (Qs x) W)] rfl (.inr ⟨⟨Y.heap.size,0,none⟩,1,rfl,rfl,yh HS.o⟩) (X5 rfl) O0 J.o.size ?_;intro v' w6 O6 g6 _;obtain⟨a6,c6,rfl⟩:=x9 O6;have k2:Hid (Cl w6 A 179 [Sb (rf m),Sa av k cv,Sb (Y6 (U3 (b_ c t.data.toList)) W)]):=(g6.block A C3.o.lt (λh=>(by have:=hOb.o A h.symm;omega))).trans C3.o;have B6:But A E w6:=⟨g6.os.trans J.o.os,g6.tape.trans J.o.tape,g6.output.trans J.o.output,X7 J.o.size g6.size,λq Q N=>(g6.block q (P9 Q J.o.size) (λh=>(by have:=hOb.o q h.symm;omega))).trans (J.o.block q Q N)⟩;have H7:=U0 O6;clear O6 g6 C3 H5 J)|(refine Qc rfl 177 _ _ rfl (p:=1) rfl rfl Y0 k2.o (Xa rfl) ?_;intro z3 C7 L))
 go_roundw;exact⟨k+1,Sa a6 (k+1) c6,O0,by go_num,C7,by
  show World.ownsRow _ _ _ _ _ _ _;rw[HT.o,II];exact jy H7 (Vf L.size.symm) (λq _ N=>L.block q N) hAw,B6.trans ⟨L.os,L.tape,L.output,Vf L.size.symm,λq _ N=>L.block q N⟩⟩
 exact V9
theorem Ir{α:Type}{d:α}{x y:List α}(h:x.length=y.length)(hd:∀j,j<x.length->x.getD j d=y.getD j d):x=y:=by
 apply xu h;intro i h1 h2;have e:=hd i h1;simpa[List.getD,h1,h2]using e
theorem c168(a c:List Int)(v u:OA)(D C:Nat)(w:World)(hl:a.length<=1048576)(hl':c.length<=1048576)(s:Zf w v a)(r:Zf w u c):
 Calls prog 168 #[Sa v a.length D,Sa u c.length C] w λe w'=>Rb (a=c) e/\Bw w w':=by
 by_cases d:a.length=c.length;rotate_left
 ·have n:Hid (¬a=c):=λh=>d (by rw[h]);have hn1:¬(a.length:Int)=c.length:=O0
  go_in
  go_wp2;go_ret;exact⟨P5 n.o,O4 _ _⟩
 rw[<- d];have m:=U0 d;clear d;obtain⟨b,off,hc⟩:=Vg s;obtain⟨b',off',q⟩:=Vg r;have I:=U0 hc;have H:=U0 q;clear hc q s r
 go_in
 go_wp2;go_loopw[13] (λi wr=>∃(k:Nat),k<=a.length/\i=Sc Se k/\Hid (∀j,j<k->a.getD j 0=c.getD j 0)/\Below w.heap.size w wr) (λi _=>a.length-(RowKit.intOf i).toNat);exact⟨0,Y4 _,rfl,λj h=>absurd h (U8 _),O4 _ _⟩;obtain⟨k,hk2,rfl,hd,l⟩:=hrel;have t:=l;by_cases g:k<a.length
 ·obtain⟨ha,z,p⟩:=Ud I.o g;rcases H.o with x|⟨A,y,o⟩
  ·have d:=m.o;rw[x]at d;rw[d]at g;exact absurd g (U8 _)
  subst ha;subst A;have g0:=(l.cell (by exact z)).trans (p k g);have B:=(l.cell (by exact y)).trans (o k (by have:=m.o;omega));clear p o;by_cases f:a.getD k 0=c.getD k 0
  ·have F:Hid (∀j,j<k+1->a.getD j 0=c.getD j 0):=λj hj=>by
    rcases Z7 j k with h|h
    ·exact hd.o j h
    obtain rfl:j=k:=O0;exact f
   rw[<- f]at B;generalize a.getD k 0=X at*;clear f hd
   go_wp2_with fail
   go_region
   all_goals go_wp2
   all_goals go_roundw
   all_goals first
    | exact⟨k+1,O0,by go_num,F,l.drew⟩
    | (exact V9)
  have n:Hid (¬a=c):=λh=>f (by rw[h]);generalize a.getD k 0=X at*;generalize c.getD k 0=Y at*;have hg':(X==Y)=false:=by simpa using f
  go_wp2_with fail
  go_region
  all_goals go_wp2
  all_goals go_ret
  all_goals exact⟨P5 n.o,t.drew⟩
 obtain rfl:k=a.length:=O0;have E:Hid (a=c):=by
  exact Ir m hd
 go_wp2;go_ret;exact⟨H_ E,t⟩
theorem c226(a c:LB)(v u:OA)(D C:Nat)(w:World)(hl:a.length<=1048576)(hl':c.length<=1048576)(s:J8 w v a)(r:J8 w u c):
 Calls prog 226 #[Sa v a.length D,Sa u c.length C] w λe w'=>Rb (a=c) e/\Bw w w':=by
 by_cases d:a.length=c.length;rotate_left
 ·have n:Hid (¬a=c):=λh=>d (by rw[h]);have hn1:¬(a.length:Int)=c.length:=O0
  go_in
  go_wp2;go_ret;exact⟨P5 n.o,O4 _ _⟩
 rw[<- d];have m:=U0 d;clear d;obtain⟨b,off,hc⟩:=Aa s;obtain⟨b',off',q⟩:=Aa r;have I:=U0 hc;have H:=U0 q;clear hc q s r
 go_in
 go_wp2;go_loopw[13] (λi wr=>∃(k:Nat),k<=a.length/\i=Sc Se k/\Hid (∀j,j<k->a.getD j ByteArray.empty=c.getD j ByteArray.empty)/\Below w.heap.size w wr) (λi _=>a.length-(RowKit.intOf i).toNat);exact⟨0,Y4 _,rfl,λj h=>absurd h (U8 _),O4 _ _⟩;obtain⟨k,hk2,rfl,hd,l⟩:=hrel;have t:=l;by_cases g:k<a.length
 ·obtain⟨ha,z,p⟩:=Ud I.o g;rcases H.o with x|⟨A,y,o⟩
  ·have d:=m.o;rw[x]at d;rw[d]at g;exact absurd g (U8 _)
  subst ha;subst A;have g0:=(l.cell (by exact z)).trans (p k g);have B:=(l.cell (by exact y)).trans (o k (by have:=m.o;omega));clear p o;by_cases f:a.getD k ByteArray.empty=c.getD k ByteArray.empty
  ·have F:Hid (∀j,j<k+1->a.getD j ByteArray.empty=c.getD j ByteArray.empty):=λj hj=>by
    rcases Z7 j k with h|h
    ·exact hd.o j h
    obtain rfl:j=k:=O0;exact f
   rw[<- f]at B;generalize a.getD k ByteArray.empty=X at*;clear f hd
   go_wp2_with fail
   go_region
   all_goals go_wp2
   all_goals go_roundw
   all_goals first
    | exact⟨k+1,O0,by go_num,F,l.drew⟩
    | (exact V9)
  have n:Hid (¬a=c):=λh=>f (by rw[h]);generalize a.getD k ByteArray.empty=X at*;generalize c.getD k ByteArray.empty=Y at*;have q':=S_.2 (Yc f)
  go_wp2_with fail
  go_region
  all_goals go_wp2
  all_goals go_ret
  all_goals exact⟨P5 n.o,t.drew⟩
 obtain rfl:k=a.length:=O0;have E:Hid (a=c):=by
  exact Ir m hd
 go_wp2;go_ret;exact⟨H_ E,t⟩
theorem a6j(a c:List T.F2)(z y:OA)(K J:Nat)(w:World)(hl:a.length<=1048576)(hl':c.length<=1048576)(x:T.P6 w z a)(v:T.P6 w y c):
 Calls prog 170 #[Sa z a.length K,Sa y c.length J] w λe w'=>Rb (a=c) e/\Bw w w':=by
 by_cases d:a.length=c.length;rotate_left
 ·have n:Hid (¬a=c):=λh=>d (by rw[h]);have hn1:¬(a.length:Int)=c.length:=O0
  go_in
  go_wp2;go_ret;exact⟨P5 n.o,O4 _ _⟩
 rw[<- d];have m:=U0 d;clear d;obtain⟨b,off,hc⟩:=T.r_ x;obtain⟨b',off',s⟩:=T.r_ v;have P:=U0 hc;have O:=U0 s;clear hc s x v
 go_in
 go_wp2;go_loopw[13] (λi wr=>∃(k:Nat),k<=a.length/\i=Sc Se k/\Hid (∀j,j<k->a.getD j T.o9=c.getD j T.o9)/\Below w.heap.size w wr) (λi _=>a.length-(RowKit.intOf i).toNat);exact⟨0,Y4 _,rfl,λj h=>absurd h (U8 _),O4 _ _⟩;obtain⟨k,hk2,rfl,hd,f⟩:=hrel;have q:=f;by_cases g:k<a.length
 ·obtain⟨ha,u,p⟩:=Ud P.o g;rcases O.o with E|⟨F,t,o⟩
  ·have d:=m.o;rw[E]at d;rw[d]at g;exact absurd g (U8 _)
  subst ha;subst F;have g0:=(f.cell (by exact u)).trans ((p k g).1);have g1:=(f.cell (by exact u)).trans ((p k g).2);have I:=(f.cell (by exact t)).trans ((o k (by have:=m.o;omega)).1);have H:=(f.cell (by exact t)).trans ((o k (by have:=m.o;omega)).2);clear p o;by_cases l:a.getD k T.o9=c.getD k T.o9
  ·have N:Hid (∀j,j<k+1->a.getD j T.o9=c.getD j T.o9):=λj hj=>by
    rcases Z7 j k with h|h
    ·exact hd.o j h
    obtain rfl:j=k:=O0;exact l
   rw[<- l]at I H;generalize a.getD k T.o9=X at*;clear l hd
   go_wp2_with fail
   go_region
   all_goals go_wp2
   all_goals go_roundw
   all_goals first
    | exact⟨k+1,O0,by go_num,N,f.drew⟩
    | (exact V9)
  have n:Hid (¬a=c):=λh=>l (by rw[h]);generalize a.getD k T.o9=X at*;generalize c.getD k T.o9=Y at*;obtain⟨A,C⟩:=X;obtain⟨t2,B⟩:=Y;by_cases r:A=t2
  ·subst r;have D:¬C=B:=λh=>l (by rw[h]);have q3':=Yc D
   go_wp2_with fail
   go_region
   all_goals go_wp2
   all_goals go_ret
   all_goals exact⟨P5 n.o,q.drew⟩
  have q2':=Yc r
  go_wp2_with fail
  go_region
  all_goals go_wp2
  all_goals go_ret
  all_goals exact⟨P5 n.o,q.drew⟩
 obtain rfl:k=a.length:=O0;have L:Hid (a=c):=by
  exact Ir m hd
 go_wp2;go_ret;exact⟨H_ L,q⟩
theorem a1y(x:Value)(n:Nat):zs [x] n=List.replicate n x:=by
 induction n with
 | zero=>rfl
 | succ n ih=>rw[vF,ih];rfl
theorem rW(x:Value)(hx:x.oneCell'=true)(n:Nat):∀v∈List.replicate n x,v.oneCell'=true:=λv hv=>by rw[(List.mem_replicate.1 hv).2];exact hx
theorem SL{n k m:Nat}{V Z:Value}(h:k+m<=n):splice (List.replicate k V++List.replicate (n-k) Z) k (List.replicate m V)=List.replicate (k+m) V++List.replicate (n-(k+m)) Z:=by
 unfold splice;rw[List.take_left' J4,JB,List.drop_append,List.drop_eq_nil_of_le J4,Y9,JB,List.drop_replicate,<- Tt,List.replicate_append_replicate]
 congr 2
 omega
theorem a6I(n:Int)(w:World)(a:n=1\/n=2\/n=3\/n=4):Calls prog 315 #[.int .u64 1,.int .u64 n] w λe w'=>e=Sf (.tuple #[.int .u64 0,.int .u64 n])/\w'=w:=by
 rcases a with rfl|rfl|rfl|rfl
 all_goals
  go_in
  go_wp2;go_ret2;exact⟨rfl,rfl⟩
theorem a5M(n:Int)(w:World)(a:n=1\/n=2\/n=3\/n=4):Calls prog 276 #[.int .u64 1,.int .u64 n] w λe w'=>e=Sf (.tuple #[.int .u64 0,.int .u64 n])/\w'=w:=by
 go_in
 go_wp2_with fail
 refine(a6I n w a).mono ?_;rintro e w1⟨rfl,rfl⟩;go_wp2;go_ret2;exact⟨rfl,rfl⟩
theorem c229(n x:Nat)(w:World)(c:1<=n/\n<=4)(hx:x<w.heap.size)(hc:w.cell? ⟨x,0,none⟩=some (Sc Se (-1))):
 Calls prog 229 #[Sa (some ⟨x,0,none⟩) 1 1,Sc Se n] w λe w'=>(∃g,e=Sf (Sa (some ⟨g,0,none⟩) n n)/\w.heap.size<=g/\Cl w' g 3 (List.replicate n (Sc Se (-1))))/\Bw w w':=by
 obtain⟨p,B,s,r,q⟩:=info_parts a3o;have hmk:∀u:World,(Instr.makeSlice 31 (vI (n:Int)) (vI (n:Int))).run prog u=
  .ok (vL (some (aW u 0)) n n) (u.alloc (Sg (List.replicate n (Sc Se 0)).toArray 3)):=λu=>by
  have h:=run_make (P:=prog) u 31 3 p vO underlying31 B s .i64 .i64 (n:Int) (n:Int) O0 (Int.le_refl _) (by rw[q];omega) O0;have e:=PK [Sc Se 0] n;rw[a1y]at e;rw[<- e];simpa[r,Value.cells]using h
 have hu:IntKind.u64.wrap (n:Int)=n:=by obtain rfl|rfl|rfl|rfl:n=1\/n=2\/n=3\/n=4:=O0<;>rfl
 have hv:IntKind.i64.wrap (n:Int)=n:=by obtain rfl|rfl|rfl|rfl:n=1\/n=2\/n=3\/n=4:=O0<;>rfl
 go_in
 go_wp2_with fail
 refine(a5M n w O0).mono ?_;rintro e w1⟨rfl,t⟩;obtain rfl:=t.symm;have R:=U0 (I4 w (List.replicate n (Sc Se 0)) 3);have f:Bw w (w.alloc (Sg (List.replicate n (Sc Se 0)).toArray 3)):=U6;have z:=(f.cell (by exact hx)).trans hc;have J:Hid (∀j v,([vI (-1)]:List Value)[j]?=some v->(w.alloc (Sg (List.replicate n (Sc Se 0)).toArray 3)).cell? ((aA x 0).add j)=some v):=λj v h=>by
  match j with
  | 0=>obtain rfl:=C_ h;exact z
  | j+1=>simp at h
 have a:([vI (-1)]:List Value).length=Nat.min 1 n:=(Ot c.1).symm
 go_wp2_with(refine wpList_copy_splice rfl (.tmp 31) (.tmp 32) 31 31 rfl 3 underlying31 Y0 _ _ _ _ _ _ rfl rfl w.heap.size 0 (List.replicate n (Sc Se 0)) 3 R.o [vI (-1)] a (λ_=>⟨rfl,_,rfl,J.o⟩) L8 (by simp[Value.oneCell']) w.heap.size w f A8 ?_;intro o E H)
 have O:Hid (Cl o w.heap.size 3 (List.replicate 1 (Sc Se (-1))++List.replicate (n-1) (Sc Se 0))):=by
  have h:=E.o;have e:=SL (n:=n) (k:=0) (m:=1) (V:=vI (-1)) (Z:=vO) O0;simp only[List.replicate_zero,Y9,Nat.sub_zero,Y8]at e;show _=_;rw[<- e];exact h
 go_loopw[8] (λi wr=>∃k:Nat,1<=k/\k<=n/\i=Sc Se k/\Hid (Cl wr w.heap.size 3 (List.replicate k (Sc Se (-1))++List.replicate (n-k) (Sc Se 0)))/\Below w.heap.size w wr) (λi _=>n-(RowKit.intOf i).toNat);exact⟨1,Y7 _,c.1,rfl,O,H⟩;obtain⟨k,hk1,hk,rfl,b,d⟩:=hrel;by_cases hlt:k<n;rotate_left
 ·obtain rfl:k=n:=O0;have Q:Hid (Cl wr w.heap.size 3 (List.replicate k (Sc Se (-1)))):=by
   have h:=b.o;rw[Uw,List.replicate_zero,Vt]at h;exact h
  go_wp2;go_ret;exact⟨⟨_,rfl,A8,Q⟩,d⟩
 have L:Hid (∀j v,(List.replicate (min k (n-k)) (Sc Se (-1)))[j]?=some v->wr.drew.cell? ((aW w 0).add j)=some v):=λj v h=>by
  have A:j<min k (n-k):=by have:=(ah.1 h).1;simpa using this
  rw[qo,Y8];refine(b.o.cell j).trans ?_;rw[D_ L8,<- h,NV,NV,D8 O0,D8 A]
 go_wp2_with fail
 refine wp_region_held_drew (S:=λ_=>True) Y0 trivial λhH=>?_
 iterate 7 refine sq ?_
 refine rq 7 λK I=>?_;have a:(List.replicate (min k (n-k)) (Sc Se (-1))).length=Nat.min k (n-k):=JB;refine step_copy_splice rfl (.tmp 41) (.tmp 44) 31 31 rfl 3 underlying31 Y0 _ _ _ _ _ _ rfl rfl w.heap.size k (List.replicate k (Sc Se (-1))++List.replicate (n-k) (Sc Se 0)) 3 b (List.replicate (min k (n-k)) (Sc Se (-1))) a (λ_=>⟨U7 O0,_,rfl,L⟩) L8 (rW _ rfl _) w.heap.size w (d.trans (O4 _ _).drew) A8 ?_;intro l D F;have N:Hid (Cl l w.heap.size 3 (List.replicate (k+min k (n-k)) (Sc Se (-1))++List.replicate (n-(k+min k (n-k))) (Sc Se 0))):=by
  show _=_;rw[<- SL O0];exact D
 rw[JB];have hm1:1<=min k (n-k):=O0;have y:k+min k (n-k)<=n:=O0;have C:goInt ((min k (n-k):Nat):Int)=vI ((min k (n-k):Nat):Int):=rfl;rw[C];generalize min k (n-k)=m at*;have hkm:IntKind.i64.wrap ((k:Int)+(m:Int))=((k+m:Nat):Int):=by rw[kK];omega
 refine G9 I trivial λhH=>?_
 iterate 2 refine sq ?_
 refine wdn ?_;go_wp2;go_roundw;exact⟨k+m,O0,y,by rw[KJ],N,F⟩;exact V9
theorem a6H(n:Nat)(w:World)(b:1<=n/\n<=4):Calls prog 169 #[Sc Se n] w λe w'=>(∃g,e=Sf (Sa (some ⟨g,0,none⟩) n n)/\w.heap.size<=g/\Cl w' g 3 (List.replicate n (Sc Se (-1))))/\Bw w w':=by
 have a:Bw w (w.alloc (Sg #[vI (-1)] 3)):=U6
 go_in
 go_wp2_with fail
 refine(c229 n w.heap.size _ b J4 (by simp[go_sem])).mono ?_;rintro e w1⟨⟨g,rfl,d,h1⟩,f⟩;have c:=X7 a.size d;have i:=U0 h1;have h:=U0 (E5 a f);go_wp2;go_ret;exact⟨⟨g,rfl,c,i⟩,h⟩
theorem c64(a c:List T.F2)(n d:OA)(o m:Nat)(w:World)(hl:a.length<=1048576)(hl':c.length<=1048576)(F:T.P6 w n a)(E:T.P6 w d c):
 Calls prog 64 #[.agg #[Sa n a.length o],.agg #[Sa d c.length m]] w λe w'=>Rb (a=c) e/\Bw w w':=by
 go_in
 go_upto_region 1 with fail
 have z:=U0 (E8 (I4 w [vL n a.length o] 40) (Sg #[vL d c.length m] 40));have y:Hid (Cl ((w.alloc (Sg #[vL n a.length o] 40)).alloc (Sg #[vL d c.length m] 40)) (w.heap.size+1) 40 [vL d c.length m]):=by show Cl _ _ _ _;have h:=I4 (w.alloc (Sg #[vL n a.length o] 40)) [vL d c.length m] 40;simpa using h
 have H:Hid (Bw w ((w.alloc (Sg #[vL n a.length o] 40)).alloc (Sg #[vL d c.length m] 40))):=U6.alloc J4 _;generalize (w.alloc (Sg #[vL n a.length o] 40)).alloc (Sg #[vL d c.length m] 40)=V at*;have x:=z.o.cell 0;have r:=y.o.cell 0;simp only[gz]at x r;by_cases f:a.length=c.length;rotate_left
 ·have t:Hid (¬a=c):=λh=>f (by rw[h]);have hn1:¬(a.length:Int)=c.length:=O0;go_wp2;go_ret;exact⟨P5 t.o,H.o⟩
 have s:=U0 f;rw[<- f]at r;obtain⟨b,off,hc⟩:=T.r_ F;obtain⟨b',off',B⟩:=T.r_ E;have HC:=U0 hc;have Z:=U0 B;have R:=U0 z.o.lt;have S:=U0 y.o.lt;clear hc B F E z y f;go_wp2;go_loopw[5] (λi wr=>∃(k:Nat),k<=a.length/\i=Sc Se k/\Hid (∀j,j<k->a.getD j T.o9=c.getD j T.o9)/\Below V.heap.size V wr) (λi _=>a.length-(RowKit.intOf i).toNat);exact⟨0,Y4 _,rfl,λj h=>absurd h (U8 _),O4 _ _⟩;obtain⟨k,hk2,rfl,hd,q⟩:=hrel
 replace x:=(q.cell (by exact R.o)).trans x
 replace r:=(q.cell (by exact S.o)).trans r
 have l:=U0 (E5 H.o q);by_cases p:k<a.length;rotate_left
 ·obtain rfl:k=a.length:=O0;have U:=U0 (Ir s.o hd.o);go_wp2;go_ret;exact⟨H_ U.o,l.o⟩
 obtain⟨ha,D,v⟩:=Ud HC.o p;rcases Z.o with N|⟨O,C,u⟩
 ·have f:=s.o;rw[N]at f;rw[f]at p;exact absurd p (U8 _)
 subst ha;subst O;have g0:=(l.o.cell (by exact D)).trans (v k p).1;have g1:=(l.o.cell (by exact D)).trans (v k p).2;have Q:=(l.o.cell (by exact C)).trans (u k (by have:=s.o;omega)).1;have P:=(l.o.cell (by exact C)).trans (u k (by have:=s.o;omega)).2;clear v u;by_cases g:a.getD k T.o9=c.getD k T.o9
 ·have W:Hid (∀j,j<k+1->a.getD j T.o9=c.getD j T.o9):=λj hj=>by
   rcases Z7 j k with h|h
   ·exact hd.o j h
   obtain rfl:j=k:=O0;exact g
  rw[<- g]at Q P;generalize a.getD k T.o9=X at*;clear g hd
  go_wp2_with fail
  go_region
  all_goals go_wp2
  all_goals go_roundw
  all_goals first
   | exact⟨k+1,O0,by go_num,W,q.drew⟩
   | (exact V9)
 have t:Hid (¬a=c):=λh=>g (by rw[h]);generalize a.getD k T.o9=X at*;generalize c.getD k T.o9=Y at*;obtain⟨I,K⟩:=X;obtain⟨t2,J⟩:=Y;by_cases A:I=t2
 ·subst A;have L:¬K=J:=λh=>g (by rw[h]);have q3':=Yc L;clear g
  go_wp2_with fail
  go_region
  all_goals go_wp2
  all_goals go_ret
  all_goals exact⟨P5 t.o,l.o.drew⟩
 have q2':=Yc A;clear g
 go_wp2_with fail
 go_region
 all_goals go_wp2
 all_goals go_ret
 all_goals exact⟨P5 t.o,l.o.drew⟩
