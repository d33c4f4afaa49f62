import Derived.Test.YtbgdfcmeheaiiaaGreatDoorM2
import Derived.Test.YtbgdfcmeheaiiaaGreatDoortT0
set_option linter.unusedVariables false
set_option linter.unusedSimpArgs false
set_option maxHeartbeats 8000000
set_option maxRecDepth 100000
namespace Go.Proofs.YtbgdfcmeheaiiaaGreatDoor
open Proofs.Tryz Go.RowKit
variable{S rest t:List UInt8}{B base k:Nat}{w:World}
theorem Na(q:Nat)(h:q<1048577):IntKind.i64.wrap (q:Int)=(q:Int):=by
 have h1:(q:Int) % 2 ^ 64=q:=O0;simp only[IntKind.wrap,IntKind.bits,IntKind.signed,h1];rw[Y7 X7]
theorem c212(ta ra:OA)(tc rc:Nat)(s:St)(w:World)(hs:s.le 1048576)(hat:Ig w ta ra s):
 Calls prog 212 #[.agg #[.int .i64 s.wd,.slice ta s.ts.length tc,.slice ra s.rs.length rc]] w λe w'=>Rb (Zg s) e/\Bw w w':=by
 have HS:=U0 hs;obtain⟨P,Z,hct⟩:=O_ hat.1;have HT:=U0 hct;obtain⟨br,orr,hcr⟩:=Ue hat.2;have HRc:=U0 hcr;have l:=hs.1.1;have hmm:=hs.2.1;clear hs hat hct hcr;obtain⟨f,p⟩:∃f,f=(w.alloc (.cells #[vI s.wd,vL ta s.ts.length tc,vL ra s.rs.length rc] 49)):=⟨_,rfl⟩;have HA0:=U0 p;have H:Bw w f:=by rw[p];exact P6
 have hAs:f.heap.size=w.heap.size+1:=by rw[p];simp
 have b0:f.cell? ⟨w.heap.size,0,none⟩=some (vI s.wd):=by rw[p];simp[go_sem]
 have b1:f.cell? ⟨w.heap.size,1,none⟩=some (vL ta s.ts.length tc):=by rw[p];simp[go_sem]
 have b2:f.cell? ⟨w.heap.size,2,none⟩=some (vL ra s.rs.length rc):=by rw[p];simp[go_sem]
 clear p;by_cases hW:1<=s.wd/\s.wd<=8
 ·have hd:decide (1<=s.wd/\s.wd<=8)=true:=by simpa using hW
  have HW:=U0 hW;by_cases a5s:300<s.ts.length
  ·have a:Hid (¬Zg s):=λh=>by have:=h.2.1.1;omega
   go_in
   go_wp2_with fail
   refine(IX _ _).mono ?_;rintro e w'⟨rfl,rfl⟩;rw[hd];go_wp2;go_ret;exact⟨I5 a,HA0.out▸H⟩
  by_cases a5K:150<s.rs.length
  ·have a:Hid (¬Zg s):=λh=>by have:=h.2.2.1;omega
   go_in
   go_wp2_with fail
   refine(IX _ _).mono ?_;rintro e w'⟨rfl,rfl⟩;rw[hd];go_wp2;go_ret;exact⟨I5 a,HA0.out▸H⟩
  go_in
  go_wp2_with fail
  refine(IX _ _).mono ?_;rintro e w'⟨rfl,hw'⟩;obtain rfl:=hw';rw[hd];go_wp2;go_loopw[3] (λi wr=>∃(k:Nat),k<=s.ts.length/\i=.int .i64 k/\Hid (∀j,j<k->StepT s.ts s.wd j)/\Below (w.heap.size+1) f wr) (λi _=>s.ts.length-(RowKit.intOf i).toNat);exact⟨0,I4 _,rfl,λj h=>absurd h (U7 _),by rw[HA0.out];exact J4 _ _⟩;obtain⟨k,hk,rfl,D,hx⟩:=hrel;have n:=H.trans (hx.mono O0);have L:w.heap.size+1<=wr.heap.size:=by have:=hx.size;omega
  have Q:=(hx.cell O4).trans b0;have a1:=(hx.cell O4).trans b1;have a2:=(hx.cell O4).trans b2;by_cases d:k<s.ts.length
  ·obtain⟨ha,F,E⟩:=Zb HT.out d;subst ha;have HCL:=U0 E;have g0:=(n.cell (by exact F)).trans (E k d);have z:(s.ts.getD k ByteArray.empty).size<=1048700:=by have:=HS.out.1.2 k;omega
   have W:Hid (StepT s.ts s.wd k↔(∃c t,YE (s.ts.getD k ByteArray.empty).data.toList c t true)/\(k=0\/Op.bytesLess (G6 (s.ts.getD (k-1) ByteArray.empty) s.wd).toList (G6 (s.ts.getD k ByteArray.empty) s.wd).toList=true)):=Iff.rfl;have V:Hid (∃x,x=s.ts.getD k ByteArray.empty):=⟨_,rfl⟩;obtain⟨x,A⟩:=V.out;rw[<- A]at g0 z W;clear A V E
   go_wp2_with fail
   refine(a3h x _ z).mono ?_;rintro e w2⟨⟨c,t,ok,rfl,hr,_⟩,hb2⟩;have hfl:=VO hr;have HFL:=U0 hfl;clear hr hfl;have B:Below (w.heap.size+1) f (w2.alloc (.cells #[vI c,vS (Y2 t)] 71)):=(hx.trans (hb2.mono L)).alloc (Q8 L hb2.size) _;have hA2:=H.trans (B.mono O0);clear hb2
   go_wp2_with fail
   generalize a6p:w2.alloc (.cells #[vI c,vS (Y2 t)] 71)=R at*;clear a6p;cases ok
   ·have a:Hid (¬Zg s):=λh=>by have:=HFL.out.2 ((W.out.1 (h.2.1.2 k d)).1);cases this
    refine wp_region_held_drew (S:=(λ_=>True)) Y0 ?_ λhHeld=>?_
    · ((try dsimp only);(first|done|trivial))
    iterate 26 refine sq ?_
    refine wdn ?_;clear hHeld;go_wp2;go_ret;exact⟨I5 a,hA2.drew⟩
   cases k with
   | zero=>
    have o:Hid (∀j,j<0+1->StepT s.ts s.wd j):=λj hj=>by
     obtain rfl:j=0:=O0;exact W.out.2 ⟨HFL.out.1 rfl,.inl rfl⟩
    refine wp_region_held_drew (S:=(λ_=>True)) Y0 ?_ λhHeld=>?_
    · ((try dsimp only);(first|done|trivial))
    iterate 26 refine sq ?_
    refine wdn ?_;clear hHeld;go_wp2;go_roundw;exact⟨0+1,O0,by go_num,o,B.drew⟩;exact P9
   | succ q=>
    have hW2:w.heap.size+1<=R.heap.size:=by have:=B.size;omega
    have hz0:w.heap.size<R.heap.size:=O0;have hzb:P<R.heap.size:=O0;have k0:=(B.cell O4).trans b0;have k1:=(B.cell O4).trans b1;have k2:=(hA2.cell (by exact F)).trans (HCL q O0);have k3':=(hA2.cell (by exact F)).trans (HCL.out (q+1) d);have hys:(s.ts.getD q ByteArray.empty).size<=1048700:=by have:=HS.out.1.2 q;omega
    have hge:s.ts.getD (q+1) ByteArray.empty=x:=by
     have e1:=(n.cell (by exact F)).trans (HCL.out (q+1) d);rw[g0]at e1;simpa using e1.symm
    have k3:R.cell? ⟨P,Z+(q+1),none⟩=some (vS x):=by rw[k3',hge]
    have a5L:Hid (StepT s.ts s.wd (q+1)↔(∃c t,YE x.data.toList c t true)/\(q+1=0\/Op.bytesLess (G6 (s.ts.getD q ByteArray.empty) s.wd).toList (G6 x s.wd).toList=true)):=W.out;have U:Hid (∃y,y=s.ts.getD q ByteArray.empty):=⟨_,rfl⟩;obtain⟨y,v⟩:=U.out;rw[<- v]at k2 hys a5L;have C:q<s.ts.length:=O0;have hq0:0<=(q:Int)+1:=O0;have hq1:(q:Int)+1<(s.ts.length:Int):=O0;have hwq:=Na q O0;have a7g:=Na (q+1) O0;have hqq:((q+1:Nat):Int)-1=(q:Int):=O0;clear v U k3' hge g0 W Q a1 a2;cases hy:Op.bytesLess (G6 y s.wd).toList (G6 x s.wd).toList
    all_goals
     refine wp_region_held_drew (S:=(λu=>u.cell? ⟨w.heap.size,0,none⟩=some (vI s.wd)/\u.cell? ⟨w.heap.size,1,none⟩=some (vL (some ⟨P,Z,none⟩) s.ts.length tc)/\u.cell? ⟨P,Z+q,none⟩=some (vS y)/\u.cell? ⟨P,Z+(q+1),none⟩=some (vS x))) Y0 ?_ λhHeld=>?_
     · ((try dsimp only);go_keep)
     refine U8 0 ?_;refine U8 1 ?_;refine U8 2 ?_;refine U8 3 ?_;refine U8 4 ?_;refine U8 5 ?_;refine U8 6 ?_;refine U8 7 ?_;refine U8 8 ?_;refine U8 9 ?_;refine U8 10 ?_;refine U8 11 ?_;refine U8 12 ?_;refine U8 13 ?_;refine U8 15 ?_;refine U8 16 ?_;refine U8 17 ?_;refine U8 18 ?_;refine U8 19 ?_;refine U8 20 ?_;refine U8 21 ?_;refine rq 14 λK b=>?_;go_simp;refine(OB y s.wd _ hys).mono ?_;rintro e w3⟨rfl,hb3⟩;have Y:Hid (Bw R w3):=(J4 _ _).drew.trans hb3;have p30:=(Y.out.cell (by exact hz0)).trans k0;have p31:=(Y.out.cell (by exact hz0)).trans k1;have p32:=(Y.out.cell (by exact hzb)).trans k2;have p33:=(Y.out.cell (by exact hzb)).trans k3
     go_wp2_with fail
     clear hHeld;refine rF b λhHeld=>?_;clear b K;refine rq 22 λK b=>?_;go_simp;refine(OB x s.wd _ z).mono ?_;rintro e w4⟨rfl,hb4⟩;have J:=U0 (P5 Y hb4);have p40:=(J.out.cell (by exact hz0)).trans k0;have p41:=(J.out.cell (by exact hz0)).trans k1;have p42:=(J.out.cell (by exact hzb)).trans k2;have p43:=(J.out.cell (by exact hzb)).trans k3
     go_wp2_with fail
     clear hHeld;refine rF b λhHeld=>?_;clear b K
     iterate 3 refine sq ?_
     refine wdn ?_;clear hHeld
    ·have a:Hid (¬Zg s):=λh=>by
      have:=(a5L.out.1 (h.2.1.2 (q+1) d)).2;rcases this with h1|h1
      ·omega
      rw[hy]at h1;cases h1
     have hB4:=hA2.trans (J.out.mono O0);go_wp2;go_ret;exact⟨I5 a,hB4⟩
    have o:Hid (∀j,j<q+1+1->StepT s.ts s.wd j):=λj hj=>by
     rcases P7 j (q+1)with h|h
     ·exact D j h
     obtain rfl:j=q+1:=O0;exact a5L.out.2 ⟨HFL.out.1 trivial,.inr hy⟩
    have hx4:=B.trans (J.out.mono hW2);go_wp2;go_roundw;exact⟨q+1+1,O0,by go_num,o,hx4⟩;exact P9
  have HTX:Hid (qK s.ts s.wd):=⟨O0,λi hi=>D.out i O0⟩;clear D
  go_wp2_with fail
  clear Q a1 a2 n L;go_loopw[6] (λi wr=>∃(k:Nat),k<=s.rs.length/\i=.int .i64 k/\Hid (∀j,j<k->bH s.wd (s.rs.getD j j_))/\Below (w.heap.size+1) f wr) (λi _=>s.rs.length-(RowKit.intOf i).toNat);exact⟨0,I4 _,rfl,λj h=>absurd h (U7 _),hx⟩;clear hx;obtain⟨k,hk,rfl,D,hx⟩:=hrel;obtain⟨wq,hwq⟩:∃wq,wq=wr:=⟨_,rfl⟩;subst hwq;have n:=H.trans (hx.mono O0);have L:w.heap.size+1<=wq.heap.size:=by have:=hx.size;omega
  have Q:=(hx.cell O4).trans b0;have a2:=(hx.cell O4).trans b2;by_cases d:k<s.rs.length
  ·obtain⟨ha,F,E⟩:=Zb HRc.out d;subst ha;obtain⟨ai,r,e0,e1,e2,e3⟩:=(E k d).below F n;have z:=HS.out.2.2 k;have V:Hid (∃x,x=s.rs.getD k j_):=⟨_,rfl⟩;obtain⟨x,A⟩:=V.out;rw[<- A]at e0 e1 e2 e3 z;have HX:=U0 A;have HGL:=U0 e3;obtain⟨x1,x2,x3,x4⟩:=z;have HX3:=U0 x3;clear A V E e3 x3;have X:Hid (¬bH s.wd x->¬Zg s):=λl h=>l (HX.out▸h.2.2.2 k d);have hAq:Bw wq (wq.alloc (.cells #[vS x.key,vL ai x.gs.length r,vS x.out] 176)):=P6;have hBq:Bw w (wq.alloc (.cells #[vS x.key,vL ai x.gs.length r,vS x.out] 176)):=n.alloc n.size _;have a0':=past (by show w.heap.size<wq.heap.size;omega) Q;by_cases h1:x.key.size<=321
   ·by_cases h2:(x.out.size:Int)=s.wd
    ·by_cases h3:x.gs.length<=15
     ·have HH:Hid (x.key.size<=321/\(x.out.size:Int)=s.wd/\x.gs.length<=15):=⟨h1,h2,h3⟩;go_wp2;go_loopw[8] (λi wr=>∃(q:Nat),q<=x.gs.length/\i=.int .i64 q/\Hid (∀j,j<q->a0P s.wd (x.gs.getD j ah))/\Below (wq.heap.size+1) (wq.alloc (.cells #[.string x.key,.slice ai x.gs.length r,.string x.out] 176)) wr) (λi _=>x.gs.length-(RowKit.intOf i).toNat);exact⟨0,I4 _,rfl,λj h=>absurd h (U7 _),J4 _ _⟩;obtain⟨q,hq,rfl,hdg,O⟩:=hrel;have hBg:=hBq.trans (O.mono O0);have hqg:=hAq.trans (O.mono O0);have hzg:wq.heap.size+1<=wr.heap.size:=by have:=O.size;simpa using this
      have k0:=(hqg.cell (by show w.heap.size<wq.heap.size;omega)).trans Q;have k1:wr.cell? ⟨wq.heap.size,1,none⟩=some (vL ai x.gs.length r):=(O.cell O4).trans (by simp[go_sem]);by_cases C:q<x.gs.length
      ·obtain⟨m,g,hci⟩:=Lh (V8 HGL.out hqg);obtain⟨hai,a7h,hgc⟩:=Zb hci C;subst hai;have g1:=(hgc q C).2.1;have g2:=(hgc q C).2.2;have a6q:=(HX3 q).1;have U:Hid (∃y,y=x.gs.getD q ah):=⟨_,rfl⟩;obtain⟨y,v⟩:=U.out;rw[<- v]at g1 g2 a6q;have HY:=U0 v;have hyl:y.tl.size<=1048700:=O0;clear v U hgc;cases l:Y5 y.tl.data.toList
       ·have a:Hid (¬Zg s):=X.out λh=>by have:=(h.2 q C).1;rw[<- HY.out,l]at this;cases this
        have I:=EM y.tl;rw[l]at I
        go_wp2_with fail
        refine wp_region_held_drew (S:=(λu=>u.cell? ⟨w.heap.size,0,none⟩=some (vI s.wd)/\u.cell? ⟨wq.heap.size,1,none⟩=some (vL (some ⟨m,g,none⟩) x.gs.length r)/\u.cell? ⟨m,g+q*3+1,none⟩=some (vS y.tl)/\u.cell? ⟨m,g+q*3+2,none⟩=some (vS y.ar))) Y0 ?_ λhHeld=>?_
        · ((try dsimp only);go_keep)
        iterate 6 refine sq ?_
        refine rq 6 λK b=>?_;go_simp;refine(I _ hyl).mono ?_;rintro e wz⟨rfl,N⟩;obtain rfl:=N
        go_wp2_with fail
        clear hHeld;refine rF b λhHeld=>?_;clear b K
        iterate 13 refine sq ?_
        refine wdn ?_;clear hHeld;go_wp2;go_ret;exact⟨I5 a,hBg.drew⟩
       have I:=EM y.tl;rw[l]at I;by_cases hw:(y.ar.size:Int)=s.wd
       ·have o:Hid (∀j,j<q+1->a0P s.wd (x.gs.getD j ah)):=λj hj=>by
         rcases P7 j q with h|h
         ·exact hdg j h
         obtain rfl:j=q:=O0;rw[<- HY.out];exact⟨l,hw⟩
        have hw':((y.ar.size:Int) !=s.wd)=false:=by simpa using hw
        clear l
        go_wp2_with fail
        refine wp_region_held_drew (S:=(λu=>u.cell? ⟨w.heap.size,0,none⟩=some (vI s.wd)/\u.cell? ⟨wq.heap.size,1,none⟩=some (vL (some ⟨m,g,none⟩) x.gs.length r)/\u.cell? ⟨m,g+q*3+1,none⟩=some (vS y.tl)/\u.cell? ⟨m,g+q*3+2,none⟩=some (vS y.ar))) Y0 ?_ λhHeld=>?_
        · ((try dsimp only);go_keep)
        iterate 6 refine sq ?_
        refine rq 6 λK b=>?_;go_simp;refine(I _ hyl).mono ?_;rintro e wz⟨rfl,N⟩;obtain rfl:=N
        go_wp2_with fail
        clear hHeld;refine rF b λhHeld=>?_;clear b K
        iterate 13 refine sq ?_
        refine wdn ?_;clear hHeld;go_wp2;go_roundw;exact⟨q+1,O0,by go_num,o,O.drew⟩;exact P9
       have a:=U0 (X.out λh=>hw (by have:=(h.2 q C).2;rw[<- HY.out]at this;exact this));have hw':((y.ar.size:Int) !=s.wd)=true:=by simpa using hw
       have hw2:((y.ar.size:Int)==s.wd)=false:=by simpa using hw
       clear l
       go_wp2_with fail
       refine wp_region_held_drew (S:=(λu=>u.cell? ⟨w.heap.size,0,none⟩=some (vI s.wd)/\u.cell? ⟨wq.heap.size,1,none⟩=some (vL (some ⟨m,g,none⟩) x.gs.length r)/\u.cell? ⟨m,g+q*3+1,none⟩=some (vS y.tl)/\u.cell? ⟨m,g+q*3+2,none⟩=some (vS y.ar))) Y0 ?_ λhHeld=>?_
       · ((try dsimp only);go_keep)
       iterate 6 refine sq ?_
       refine rq 6 λK b=>?_;go_simp;refine(I _ hyl).mono ?_;rintro e wz⟨rfl,N⟩;obtain rfl:=N
       go_wp2_with fail
       clear hHeld;refine rF b λhHeld=>?_;clear b K
       iterate 13 refine sq ?_
       refine wdn ?_;clear hHeld;go_wp2;go_ret;exact⟨I5 a,hBg.drew⟩
      have o:Hid (∀j,j<k+1->bH s.wd (s.rs.getD j j_)):=λj hj=>by
       rcases P7 j k with h|h
       ·exact D j h
       obtain rfl:j=k:=O0;rw[<- HX.out];exact⟨HH.out,λi hi=>hdg.out i O0⟩
      have hxg:=hx.trans (hqg.mono L);go_wp2;go_roundw;exact⟨k+1,O0,by go_num,o,hxg⟩;exact P9
     have a:=U0 (X.out λh=>h3 h.1.2.2);have h3':15<x.gs.length:=O0;go_wp2;go_ret;exact⟨I5 a,hBq⟩
    have a:=U0 (X.out λh=>h2 h.1.2.1);have h2':((x.out.size:Int) !=s.wd)=true:=by simpa using h2
    have a7i:((x.out.size:Int)==s.wd)=false:=by simpa using h2
    go_wp2;go_ret;exact⟨I5 a,hBq⟩
   have a:=U0 (X.out λh=>h1 h.1.1);go_wp2;go_ret;exact⟨I5 a,hBq⟩
  have a:Hid (Zg s):=⟨HW,HTX,O0,λi hi=>D.out i O0⟩;go_wp2;go_ret;exact⟨F_ a,n⟩
 have hd:decide (1<=s.wd/\s.wd<=8)=false:=by simpa using hW
 have a:Hid (¬Zg s):=λh=>hW h.1
 go_in
 go_wp2_with fail
 refine(IX _ _).mono ?_;rintro e w'⟨rfl,rfl⟩;rw[hd];go_wp2;go_ret;exact⟨I5 a,HA0.out▸H⟩
theorem a2n(b:Bool)(s:BY)(w:World)(a:s=if b=true then⟨#[49]⟩ else⟨#[48]⟩):Calls prog 269 #[.bool b] w λe w'=>e=.returned (.string s)/\Bw w w':=by
 subst a;exact a4M b w
theorem a4P(m:M3)(ls:List L4)(c:Int)(t:BY)(W:Int)(a:OA)(cap:Nat)(w:World)(hm:m.le 1048600)(ht:t.size<=1048700)(hf:(Y2 (S9 c t.data.toList)).size<=1048700)(hl:ls.length<=1048576)(hs:∀i,(ls.getD i l_).tx.size<=1048600/\(iq (ls.getD i l_)).size<=1048700)(hat:X6 w a ls):
 Calls prog 216 #[.agg #[.string m.nm,.string m.tl,.string m.ar],.slice a ls.length cap,.agg #[.int .i64 c,.string t],.int .i64 W] w λe w'=>(∃v,e=.returned (.agg #[.string (Fe m),v,.string (G6 (Y2 (S9 c t.data.toList)) W)])/\w'.ownsRow w.heap.size 256 3 v ls.length (bG W ls))/\Bw w w':=by
 have hm1:=hm.2.1;have hm2:=hm.2.2;have hk1:¬9223372036854775807<m.tl.size+1:=O0;have hk2:¬9223372036854775807<m.tl.size+1+m.ar.size:=O0;have HL:=U0 hat
 go_in
 go_upto_region 1 with fail
 have hB0:Bw w (((w.alloc (.cells #[.string m.nm,.string m.tl,.string m.ar] 68)).alloc (.cells #[.int .i64 c,.string t] 71)).alloc (.cells #[.string ⟨#[]⟩,.slice none 0 0,.string ⟨#[]⟩] 176)):=(P6.alloc O4 _).alloc X7 _;have O:Hid ((Cl (((w.alloc (.cells #[.string m.nm,.string m.tl,.string m.ar] 68)).alloc (.cells #[.int .i64 c,.string t] 71)).alloc (.cells #[.string ⟨#[]⟩,.slice none 0 0,.string ⟨#[]⟩] 176)) w.heap.size 68 [.string m.nm,.string m.tl,.string m.ar]/\Cl (((w.alloc (.cells #[.string m.nm,.string m.tl,.string m.ar] 68)).alloc (.cells #[.int .i64 c,.string t] 71)).alloc (.cells #[.string ⟨#[]⟩,.slice none 0 0,.string ⟨#[]⟩] 176)) (w.heap.size+1) 71 [.int .i64 c,.string t])/\Cl (((w.alloc (.cells #[.string m.nm,.string m.tl,.string m.ar] 68)).alloc (.cells #[.int .i64 c,.string t] 71)).alloc (.cells #[.string ⟨#[]⟩,.slice none 0 0,.string ⟨#[]⟩] 176)) (w.heap.size+2) 176 [.string ⟨#[]⟩,.slice none 0 0,.string ⟨#[]⟩]):=⟨⟨G8 (G8 (U3 w [.string m.nm,.string m.tl,.string m.ar] 68) _) _,G8 (by have h:=U3 (w.alloc (.cells #[.string m.nm,.string m.tl,.string m.ar] 68)) [.int .i64 c,.string t] 71;simpa using h) _⟩,by have h:=U3 ((w.alloc (.cells #[.string m.nm,.string m.tl,.string m.ar] 68)).alloc (.cells #[.int .i64 c,.string t] 71)) [.string ⟨#[]⟩,.slice none 0 0,.string ⟨#[]⟩] 176;simpa using h⟩;generalize ((w.alloc (.cells #[.string m.nm,.string m.tl,.string m.ar] 68)).alloc (.cells #[.int .i64 c,.string t] 71)).alloc (.cells #[.string ⟨#[]⟩,.slice none 0 0,.string ⟨#[]⟩] 176)=V at*;have F:Hid (∀u,Bw V u->(Cl u w.heap.size 68 [.string m.nm,.string m.tl,.string m.ar]/\Cl u (w.heap.size+1) 71 [.int .i64 c,.string t])/\Cl u (w.heap.size+2) 176 [.string ⟨#[]⟩,.slice none 0 0,.string ⟨#[]⟩]/\Bw w u/\X6 u a ls):=λu C=>⟨⟨O.out.1.1.below C O.out.1.1.lt,O.out.1.2.below C O.out.1.2.lt⟩,O.out.2.below C O.out.2.lt,P5 hB0 C,Z4 HL (P5 hB0 C)⟩;have hVz:=O.out.2.lt
 go_cut[9] from 10 (λs U=>∃A,s=.pointer (some ⟨A,0,none⟩)/\V.heap.size<=A/\Hid (Cl U A 176 [.string (Fe m),.slice none 0 0,.string (G6 (Y2 (S9 c t.data.toList)) W)])/\Hid (Bw V U))
 case first=>
  have d:Bw V V.drew:=(J4 _ _).drew;refine wp_region_held_drew (S:=λu=>Cl u w.heap.size 68 [.string m.nm,.string m.tl,.string m.ar]/\Cl u (w.heap.size+1) 71 [.int .i64 c,.string t]) Y0 (F.out _ d).1 λhH=>?_;generalize V.drew=y at*;refine sq ?_;refine tq 1 hH ?_ (hv:=λu C=>Qn 9 _ rfl (B:=w.heap.size) (j:=1) rfl (C.1.cell 1) Y0)
  try simp only[qq]
  iterate 2 refine sq ?_
  refine tq 4 hH ?_ (hv:=λu C=>Qn 9 _ rfl (B:=w.heap.size) (j:=2) rfl (C.1.cell 2) Y0)
  try simp only[qq]
  refine sq ?_;refine tq 6 hH ?_ (hv:=λu C=>I7 71 _ rfl (B:=w.heap.size+1) (j:=0) (cs:=[.int .i64 c,.string t]) rfl (λq v e=>by rw[l7];exact(C.2.cell q).trans e) underlying71 rfl Y0)
  try simp only[qq]
  refine U8 8 ?_;refine wpAnyH_ready (rs:=[7,11]) Y0 O4 ?_;refine AllReadyH.cons (o:=⟨some 19,.call ⟨.value (.func 215),#[.tmp 18],#[71]⟩,9,_,_,none⟩) rfl (λK g=>?_) (AllReadyH.cons (o:=⟨some 9,.alloc 176,0,_,_,none⟩) rfl (λK g=>?_) AllReadyH.nil);rotate_left
  focus
   go_simp;have r:=U0 (U3 y [.string ⟨#[]⟩,.slice none 0 0,.string ⟨#[]⟩] 176);have hA:=d.size
   replace d:=P5 d (P6 (w:=y) (o:=.cells #[.string ⟨#[]⟩,.slice none 0 0,.string ⟨#[]⟩] 176))
   refine X8 g (F _ d).1 λhH=>?_;generalize y.alloc (.cells #[.string ⟨#[]⟩,.slice none 0 0,.string ⟨#[]⟩] 176)=ya at*;refine rq 7 λK g=>?_;go_simp;refine(WQ c t _ ht).mono ?_;rintro e u0⟨rfl,f⟩
   replace r:=U0 (r.out.below f r.out.lt)
   replace d:=P5 d f
   go_simp;refine X8 g (F _ d).1 λhH=>?_;refine rq 9 λK g=>?_;go_simp;refine(OB _ W _ hf).mono ?_;rintro e u1⟨rfl,f⟩
   replace r:=U0 (r.out.below f r.out.lt)
   replace d:=P5 d f
   go_simp;refine X8 g (F _ d).1 λhH=>?_;refine sq ?_;refine rq 12 λK g=>?_;refine Va rfl 176 _ _ rfl (j:=0) rfl rfl r Y8 (A8 rfl) Y0 ?_
  rotate_left
  focus
   go_simp;refine(WQ c t _ ht).mono ?_;rintro e u0⟨rfl,f⟩
   replace d:=P5 d f
   go_simp;refine X8 g (F _ d).1 λhH=>?_;refine wpAnyH_ready (rs:=[9,11]) Y0 O4 ?_;refine AllReadyH.cons (o:=⟨some 21,.call ⟨.value (.func 268),#[.tmp 19,.tmp 20],#[9,3]⟩,9,_,_,none⟩) rfl (λK g=>?_) (AllReadyH.cons (o:=⟨some 9,.alloc 176,0,_,_,none⟩) rfl (λK g=>?_) AllReadyH.nil);rotate_left
   ·go_simp;have r:=U0 (U3 u0 [.string ⟨#[]⟩,.slice none 0 0,.string ⟨#[]⟩] 176);have hA:=d.size
    replace d:=P5 d (P6 (w:=u0) (o:=.cells #[.string ⟨#[]⟩,.slice none 0 0,.string ⟨#[]⟩] 176))
    refine X8 g (F _ d).1 λhH=>?_;generalize u0.alloc (.cells #[.string ⟨#[]⟩,.slice none 0 0,.string ⟨#[]⟩] 176)=ya at*;refine rq 9 λK g=>?_;go_simp;refine(OB _ W _ hf).mono ?_;rintro e u1⟨rfl,f⟩
    replace r:=U0 (r.out.below f r.out.lt)
    replace d:=P5 d f
    go_simp;refine X8 g (F _ d).1 λhH=>?_;refine sq ?_;refine rq 12 λK g=>?_;refine Va rfl 176 _ _ rfl (j:=0) rfl rfl r Y8 (A8 rfl) Y0 ?_;intro z H D
    replace d:=d.trans (D.below hA)
    have CZ:=U0 H;refine X8 g (F _ d).1 λhH=>?_;refine wdn ?_
    go_wp2_with fail
    go_meet
    exact⟨_,rfl,hA,CZ,d⟩
   go_simp;refine(OB _ W _ hf).mono ?_;rintro e u1⟨rfl,f⟩
   replace d:=P5 d f
   go_simp;refine X8 g (F _ d).1 λhH=>?_;refine sq ?_;refine rq 11 λK g=>?_;go_simp;have r:=U0 (U3 u1 [.string ⟨#[]⟩,.slice none 0 0,.string ⟨#[]⟩] 176);have hA:=d.size
   replace d:=P5 d (P6 (w:=u1) (o:=.cells #[.string ⟨#[]⟩,.slice none 0 0,.string ⟨#[]⟩] 176))
   refine X8 g (F _ d).1 λhH=>?_;generalize u1.alloc (.cells #[.string ⟨#[]⟩,.slice none 0 0,.string ⟨#[]⟩] 176)=ya at*;refine rq 12 λK g=>?_;refine Va rfl 176 _ _ rfl (j:=0) rfl rfl r Y8 (A8 rfl) Y0 ?_
  all_goals
   intro z H D
   replace d:=d.trans (D.below hA)
   have CZ:=U0 H;refine X8 g (F _ d).1 λhH=>?_;refine wdn ?_
   go_wp2_with fail
   go_meet
   exact⟨_,rfl,hA,CZ,d⟩
 obtain⟨A,rfl,hA,r,BV⟩:=hcut;obtain⟨_,CR,BW,_⟩:=F.out _ BV.out;obtain⟨b,off,hc⟩:=Ie (F.out V (J4 _ _)).2.2.2;have BE:=U0 BV.out;have HR:=U0 CR;have HB:=U0 BW;have hAw:=r.out.lt;have hRw:=CR.lt;generalize wc=E at*;have HK:=U0 hc;go_wp2;go_loopw[10] (λi wr=>∃(k:Nat)(v:Value),k<=ls.length/\i=.int .i64 k/\Hid (Cl wr A 176 [.string (Fe m),v,.string (G6 (Y2 (S9 c t.data.toList)) W)])/\Hid (wr.ownsRow E.heap.size 256 3 v k (bG W (ls.take k)))/\But A E wr) (λi _=>ls.length-(RowKit.intOf i).toNat);exact⟨0,.slice none 0 0,I4 _,rfl,r,og _ _ _ _,But.refl _ _⟩;obtain⟨k,v,hk,rfl,CAr,X,BT⟩:=hrel;obtain⟨av,cv,rfl⟩:=Z9 X.out;have sz:=BT.size;by_cases R:k<ls.length;rotate_left
 ·obtain rfl:k=ls.length:=O0;have CR:=U0 ((BT.block (w.heap.size+2) O0 O0).trans HR)
  go_wp2_with(first|(refine Ub CAr.out rfl 176 _ rfl rfl underlying176 rfl Y0 ?_)|(refine N8 rfl 176 _ _ rfl (j:=0) rfl rfl CR.out Y8 (A8 rfl) Y0 ?_;intro z H D))
  refine o7 (I8 (P:=prog) (ty:=176) rfl _ z (w.heap.size+2) [.string (Fe m),.slice av ls.length cv,.string (G6 (Y2 (S9 c t.data.toList)) W)] _ rfl H.blk underlying176 rfl Y0) rfl ⟨⟨_,rfl,?_⟩,(HB.out.trans (BT.below O0 O0)).trans (D.below O0)⟩;have h:=X.out;rw[qp]at h;exact a_ (Dv h (Zj D.size.symm) (λq _ N=>D.block q N) O0) O0
 obtain⟨ha,hbw,hcell⟩:=Zb HK.out R;subst ha;have I:Hid (∀u,Bw wr u->(∀i v,([.bool (ls.getD k l_).has,.string (ls.getD k l_).nm,.int .i64 (ls.getD k l_).cd,.string (ls.getD k l_).tx]:List Value)[i]?=some v->u.cell? ⟨b,off+k*4+i,none⟩=some v)/\Cl u A 176 [.string (Fe m),.slice av k cv,.string (G6 (Y2 (S9 c t.data.toList)) W)]/\u.ownsRow E.heap.size 256 3 (.slice av k cv) k (bG W (ls.take k))/\But A E u):=λu C=>by
  have hB:=BT.trans (But.of_below C);refine⟨λi v e=>?_,CAr.out.below C CAr.out.lt,own_below X C,hB⟩;rw[hB.cell (p:=⟨b,off+k*4+i,none⟩) (G9 hbw BE.out.size) (by show b≠A;omega),BE.out.cell (p:=⟨b,off+k*4+i,none⟩) hbw]
  match i,e with
  | 0,e=>cases e;exact(hcell k R).1
  | 1,e=>cases e;exact(hcell k R).2.1
  | 2,e=>cases e;exact(hcell k R).2.2.1
  | 3,e=>cases e;exact(hcell k R).2.2.2
 have HT:=U0 (Yu R);have hxs:=hs k;have hDn:=U0 (λq Q=>Oe X (k:=q) Q);have hOb:=U0 (λq Q=>Y6 X (k:=q) Q);generalize ls.getD k l_=x at*
 go_upto_region 5 with fail
 have l:Bw wr wr.drew:=(J4 _ _).drew;refine wp_region_held_drew (S:=λu=>u.cell? ⟨b,off+k*4,none⟩=some (.bool x.has)/\u.cell? ⟨b,off+k*4+1,none⟩=some (.string x.nm)) Y0 ⟨(I _ l).1 0 _ rfl,(I _ l).1 1 _ rfl⟩ λhH=>?_
 iterate 11 refine sq ?_
 refine rq 11 λK g=>?_;go_simp;have n:Hid (Cl (wr.alloc (.cells #[.bool false,.string ⟨#[]⟩,.string ⟨#[]⟩] 256)).drew wr.heap.size 256 [.bool false,.string ⟨#[]⟩,.string ⟨#[]⟩]):=U3 wr [.bool false,.string ⟨#[]⟩,.string ⟨#[]⟩] 256
 replace l:=(P6 (w:=wr) (o:=.cells #[.bool false,.string ⟨#[]⟩,.string ⟨#[]⟩] 256)).drew
 generalize (wr.alloc (.cells #[.bool false,.string ⟨#[]⟩,.string ⟨#[]⟩] 256)).drew=y1 at*;refine X8 g ⟨(I _ l).1 0 _ rfl,(I _ l).1 1 _ rfl⟩ λhH=>?_;refine rq 12 λK g=>?_;refine Va rfl 256 _ _ rfl (j:=0) rfl rfl n Y8 (A8 rfl) Y0 ?_;intro z H D
 replace l:=l.trans (D.below Y8)
 replace n:Hid (Cl z wr.heap.size 256 [.bool x.has,.string x.nm,.string ⟨#[]⟩]):=H
 refine X8 g ⟨(I _ l).1 0 _ rfl,(I _ l).1 1 _ rfl⟩ λhH=>?_;refine wdn ?_
 go_upto_if 41 with(refine G5 n.out rfl _ _ rfl rfl rfl Y0 ?_)
 try simp only[qq]
 go_cut[] from 29 to 61 (λU=>Hid (Cl U wr.heap.size 256 [.bool x.has,.string x.nm,.string (G6 (iq x) W)])/\Hid (Bw wr U))
 case first=>
  cases hh:x.has
  ·have Z:=U0 (show iq x=Y2 (S9 x.cd x.tx.data.toList) by simp[iq,hh])
   go_wp2_with(refine b_ rfl (I7 71 _ rfl (B:=b) (j:=off+k*4+2) (cs:=[.int .i64 x.cd,.string x.tx]) rfl (λi v e=>by rw[Nat.add_assoc];exact(I.out _ l).1 (2+i) v (by match i,e with|0,e=>exact e|1,e=>exact e)) underlying71 rfl Y0) ?_)
   refine(WQ x.cd x.tx z O0).mono ?_;rintro e u1⟨rfl,f⟩
   replace n:=U0 (n.out.below f n.out.lt)
   replace l:=P5 l f
   go_wp2_with fail
   refine(OB _ W u1 (Z.out▸hxs.2)).mono ?_;rintro e u2⟨rfl,f⟩
   replace n:=U0 (n.out.below f n.out.lt)
   replace l:=P5 l f
   go_wp2_with(refine LC rfl 9 _ _ rfl (p:=2) rfl rfl Y0 n.out (X9 rfl) ?_;intro z2 H D)
   try simp only[qq]
   go_meet
   exact⟨by show Cl _ _ _ _;rw[Z.out];exact H.out,l.trans (D.below Y8)⟩
  have Z:=U0 (show iq x=if (x.cd==0)=true then⟨#[49]⟩ else⟨#[48]⟩ by simp[iq,hh])
  go_wp2_with(refine b_ rfl (Qn 3 _ rfl (B:=b) (j:=off+k*4+2) rfl ((I.out _ l).1 2 _ rfl) Y0) ?_)
  refine(a2n _ (iq x) z Z).mono ?_;rintro e u1⟨rfl,f⟩
  replace n:=U0 (n.out.below f n.out.lt)
  replace l:=P5 l f
  go_wp2_with fail
  refine(OB _ W u1 hxs.2).mono ?_;rintro e u2⟨rfl,f⟩
  replace n:=U0 (n.out.below f n.out.lt)
  replace l:=P5 l f
  go_wp2_with(refine LC rfl 9 _ _ rfl (p:=2) rfl rfl Y0 n.out (X9 rfl) ?_;intro z2 H D)
  try simp only[qq]
  go_meet
  exact⟨H,l.trans (D.below Y8)⟩
 obtain⟨CY,BY⟩:=hcut;obtain⟨_,c2,h3,h4⟩:=I.out _ BY.out;have C2:=U0 c2;have H3:=U0 h3;have H4:=U0 h4;have hz:=CY.out.lt;generalize wc=Y at*;have b3:Bw Y (Y.alloc (.cells #[.bool x.has,.string x.nm,.string (G6 (iq x) W)] 256)):=P6;have HS:=U0 (U3 Y [.bool x.has,.string x.nm,.string (G6 (iq x) W)] 256);have C3:=U0 (C2.out.below b3 C2.out.lt);have H5:=U0 (own_below H3 b3);have J:=U0 (H4.out.trans (But.of_below b3))
 go_wp2_with(first|(refine Ub CY.out rfl 256 _ rfl rfl underlying256 rfl Y0 ?_)|(refine G5 C2.out rfl 174 _ rfl rfl rfl Y0 ?_)|(refine Nr rfl _ _ 174 rfl E.heap.size 256 3 underlying174 (Um Y0) J6 _ k (bG W (ls.take k)) rfl H5.out _ 1 [.bool x.has,.string x.nm,.string (G6 (iq x) W)] rfl (.inr ⟨⟨Y.heap.size,0,none⟩,1,rfl,rfl,jm HS.out⟩) (A8 rfl) O0 J.out.size ?_;intro v' w6 O6 g6 _;obtain⟨a6,c16,rfl⟩:=Z9 O6;have k2:Hid (Cl w6 A 176 [.string (Fe m),.slice av k cv,.string (G6 (Y2 (S9 c t.data.toList)) W)]):=(g6.block A C3.out.lt (λh=>(by have:=hOb.out A h.symm;omega))).trans C3.out;have B6:But A E w6:=⟨g6.os.trans J.out.os,g6.tape.trans J.out.tape,g6.output.trans J.out.output,Q8 J.out.size g6.size,λq Q N=>(g6.block q (G9 Q J.out.size) (λh=>(by have:=hOb.out q h.symm;omega))).trans (J.out.block q Q N)⟩;have H7:=U0 O6;clear O6 g6 C3 H5 J)|(refine LC rfl 174 _ _ rfl (p:=1) rfl rfl Y0 k2.out (X9 rfl) ?_;intro z3 C7 L))
 go_roundw;exact⟨k+1,.slice a6 (k+1) c16,O0,by go_num,C7,by
  show World.ownsRow _ _ _ _ _ _ _;rw[HT.out,jH];exact Dv H7 (Zj L.size.symm) (λq _ N=>L.block q N) hAw,B6.trans ⟨L.os,L.tape,L.output,Zj L.size.symm,λq _ N=>L.block q N⟩⟩
 exact P9
theorem ZU:∀n:Fin 16,hx (hexL.getD n.val 0)=(n.val:Int):=J6
theorem sF(n:Nat)(h:n<16):hx (hexL.getD n 0)=n:=ZU ⟨n,h⟩
theorem Et(b:UInt8):-1<=hx b/\hx b<=15:=by
 unfold hx
 (repeat' split)<;>omega
def YA(S t:List UInt8)(k:Nat):Prop:=∀l,S=J5 l->∃r,l=t++r/\S.drop k=r.flatMap qb++[34]
theorem nM(S:List UInt8):YA S [] 1:=λl h=>⟨l,rfl,by rw[h];rfl⟩
theorem JW(h:YA S t k)(hk:S.length<=k+1)(l:List UInt8)(e:S=J5 l):t=l:=by
 obtain⟨r,h1,h2⟩:=h l e
 cases r with
 | nil=>simpa using h1.symm
 | cons c r=>
  have hq:1<=(qb c).length:=Us.2 (gK c);have:=U6 List.length h2;simp only[Lj,Ag,L9,x_,ve]at this;omega
theorem a1z{a b:UInt8}(h:YA S t k)(hd:S.drop k=92::a::b::rest):YA S (t++[UInt8.ofNat (16*hx a+hx b).toNat]) (k+3):=by
 intro l e;obtain⟨r,h1,h2⟩:=h l e
 cases r with
 | nil=>rw[hd]at h2;simp at h2
 | cons c r=>
  rw[hd,Ag]at h2;cases hc:M_ c
  ·rw[Uf hc]at h2;simp only[Ff,Qb,qi,Ey]at h2;obtain⟨ha,d,hr⟩:=h2;have lc:=ou c;have e1:hx a=(c.toNat / 16:Nat):=by rw[ha];exact sF _ O0
   have g:hx b=(c.toNat % 16:Nat):=by rw[d];exact sF _ O0
   have f:UInt8.ofNat (16*hx a+hx b).toNat=c:=by
    rw[e1,g];apply Zh.1;have:(16*((c.toNat / 16:Nat):Int)+((c.toNat % 16:Nat):Int)).toNat=c.toNat:=O0;rw[this];simp
   refine⟨r,by rw[h1,f];simp,?_⟩;rw[<- mF,hd];exact hr
  rw[Df hc]at h2;simp only[Ff,Qb,qi]at h2;rw[<- h2.1,Oy]at hc;cases hc
theorem zK{x:UInt8}(h:YA S t k)(hd:S.drop k=x::rest)(g:rest≠[])
 (i:∀a b c q,x=92->rest=a::b::c::q->hx a<0\/hx b<0):YA S (t++[x]) (k+1):=by
 intro l e;obtain⟨r,h1,h2⟩:=h l e
 cases r with
 | nil=>rw[hd]at h2;simp at h2;exact absurd h2.2 g
 | cons c r=>
  rw[hd,Ag]at h2;cases hc:M_ c
  ·rw[Uf hc]at h2;simp only[Ff,Qb,qi]at h2;obtain⟨f,hr⟩:=h2;exfalso;have lc:=ou c;have e1:=sF (c.toNat / 16) O0;have e2:=sF (c.toNat % 16) O0;rcases hq:r.flatMap qb++[34]with _|⟨d,q⟩
   ·simp at hq
   rw[hq]at hr;rcases i _ _ _ _ f hr with h|h<;>omega
  rw[Df hc]at h2;simp only[Ff,Qb,qi]at h2;refine⟨r,by rw[h1,h2.1];simp,?_⟩;rw[<- mF,hd];exact h2.2
theorem XQ(s:BY)(k:Nat)(h:k<s.size):s.data.toList.drop k=s[k]::s.data.toList.drop (k+1):=by
 rw[jA (by simpa using h)];rfl
theorem rW(a b:UInt8)(h1:0<=hx a)(h2:0<=hx b):((UInt8.ofNat (16*hx a+hx b).toNat).toNat:Int)=16*hx a+hx b:=by
 have:=Et a;have:=Et b;simp;omega
theorem a2K{g a:Nat}{l:List UInt8}(h:w.ownsRow base 5 1 (.slice (some ⟨g,0,none⟩) l.length a) l.length (Lib.byteCells l)):(convert 258 9 (.slice (some ⟨g,0,none⟩) l.length a)).run prog w=.ok (.string (Y2 l)) w:=by
 have:=run_convert_bytes_arg (P:=prog) w 258 5 underlying258 underlying5 g 0 l.length a (l.map λb=>(b.toNat:Int)) O4 (λi c=>by
  rw[l7,h.cellAt i O0];simp[Lib.byteCells,c]) 9 underlying9
 rw[this];have e:l.map ((λn:Int=>UInt8.ofNat n.toNat)∘λb=>(b.toNat:Int))=l:=(Zu (λb _=>O4)).trans (xE l);simp only[strOfNums,Ju,e];rfl
theorem Qo{e:TypeId}{size:Nat}{v:Value}{n:Nat}{xs:List Value}(h:w.ownsRow base e size v n xs)(hn:0<n):∃g a,v=.slice (some ⟨g,0,none⟩) n a:=by
 rcases h.2 with⟨_,h0⟩|⟨g,b,cur,hv,_⟩
 ·omega
 exact⟨g,b,hv⟩
theorem a0y(s:BY)(w:World)(hs:s.size<=1048700):
 Calls prog 150 #[.string s] w λe w'=>(∃t,e=.returned (.string (Y2 t))/\t.length<=s.size+1/\∀l,s.data.toList=J5 l->t=l)/\Bw w w':=by
 obtain⟨H,L,K,J,I⟩:=info_parts info5
 go_in
 go_wp2;go_loopw[3,4] (λv i wr=>∃(k:Nat)(t:List UInt8),1<=k/\k<=s.size+1/\i=.int .i64 k/\t.length<=k/\wr.ownsRow w.heap.size 5 1 v t.length (Lib.byteCells t)/\Hid (∃g Q,v=.slice (some ⟨g,0,none⟩) t.length Q)/\Hid (YA s.data.toList t k)/\Below w.heap.size w wr/\w.heap.size+1<=wr.heap.size) (λ_ i _=>s.size+1-(RowKit.intOf i).toNat);exact⟨1,[],O0,O0,rfl,O4,Iu _ #[] 0 Y8 (I4 _) rfl,⟨_,_,rfl⟩,nM _,P6,O4⟩;obtain⟨k,t,hk1,hk2,rfl,htk,o,hfm,E,p,hz⟩:=hrel;by_cases Y:k+1<s.size
 ·have hlk:k<s.size:=O0;have N:=U0 (XQ s k hlk);have D:=U0 (XQ s (k+1) Y);by_cases B:s[k]=92
  ·have e92:((s[k].toNat:Int)==92)=true:=by rw[B];rfl
   by_cases h3:k+3<s.size
   ·have Z:k+2<s.size:=O0;have R:=U0 (XQ s (k+2) Z);have r1:=Et s[k+1];have r2:=Et s[k+2];by_cases X:0<=hx s[k+1]
    ·by_cases W:0<=hx s[k+2]
     ·have C:=U0 (a1z E.out (by rw[N.out,D.out,R.out,B]));have HB:=U0 (rW _ _ X W);clear B
      go_wp2_with(go_at_call 205;refine(qM _ _).mono ?_;rintro e F⟨rfl,n⟩;obtain rfl:=n.symm)
      have V:IntKind.i64.wrap ((k:Int)+1)=((k+1:Nat):Int):=by simp[IntKind.wrap,IntKind.signed,IntKind.bits];omega
      have U:IntKind.i64.wrap ((k:Int)+2)=((k+2:Nat):Int):=by simp[IntKind.wrap,IntKind.signed,IntKind.bits];omega
      have S:IntKind.i64.wrap (16*hx s[k+1])=16*hx s[k+1]:=by simp[IntKind.wrap,IntKind.signed,IntKind.bits];omega
      have wa:IntKind.i64.wrap (16*hx s[k+1]+hx s[k+2])=16*hx s[k+1]+hx s[k+2]:=by simp[IntKind.wrap,IntKind.signed,IntKind.bits];omega
      have O:IntKind.u8.wrap (16*hx s[k+1]+hx s[k+2])=16*hx s[k+1]+hx s[k+2]:=by simp[IntKind.wrap,IntKind.signed,IntKind.bits];omega
      have WA:Hid (IntKind.u8.wrap (IntKind.i64.wrap (16*hx s[k+1]+hx s[k+2]))=16*hx s[k+1]+hx s[k+2]):=by rw[wa,O];rfl
      have hc1:((k+1:Nat):Int)<(s.size:Int):=O0;have hc2:((k+2:Nat):Int)<(s.size:Int):=O0
      go_region_law (first|(refine gu rfl (.tmp 40) (.tmp 54) 258 rfl w.heap.size 5 H (.int .u8 0) 1 1 underlying258 L K J I rfl J6 _ _ _ rfl ((o.drew).alloc _) (aW wr 0) 1 1 [_] rfl rfl (cell_one_new _ _ _) (by intro u d;simp at d;subst d;rfl) (by unfold maxLen;omega) O0 X7 ?_;intro v' r x m)|(go_simp;go_wp2_with(go_at_call 205;refine(qM _ _).mono ?_;rintro e F⟨rfl,n⟩;obtain rfl:=n.symm)))
      all_goals clear V U S wa O hc1 hc2
      all_goals go_wp2
      all_goals go_roundw
      all_goals(try(simp[RowKit.intOf];omega;done))
      all_goals
       have A:=((p.drew).alloc p.size _).grown m X7 (λj y=>(o.lt j y).1);have f:r.ownsRow w.heap.size 5 1 v' (t++[UInt8.ofNat (16*hx s[k+1]+hx s[k+2]).toNat]).length (Lib.byteCells (t++[UInt8.ofNat (16*hx s[k+1]+hx s[k+2]).toNat])):=by
        rw[S_,L9];rw[show Lib.byteCells [UInt8.ofNat (16*hx s[k+1]+hx s[k+2]).toNat]=[.int .u8 (16*hx s[k+1]+hx s[k+2])] from U6 (λz:Int=>[Value.int .u8 z]) HB.out];have P:=x;simp only[show((k:Int)+2).toNat=k+2 by omega,WA.out]at P;exact P
       exact⟨k+3,_,O0,O0,by go_num,X7,f,Qo f O4,C,A,by have:=m.size;simp at this;omega⟩
     have C:=U0 (zK E.out (by rw[N.out]) (by rw[D.out];simp) (λa b c q _ h=>.inr (by rw[D.out,R.out]at h;injection h with _ h;injection h with h _;rw[<- h];omega)));clear B
     go_wp2_with(first|(go_at_call 205;refine(qM _ _).mono ?_;rintro e F⟨rfl,n⟩;obtain rfl:=n.symm)|(at_builtin;refine wpList_append_own _ rfl _ _ 258 rfl w.heap.size 5 H (.int .u8 0) 1 1 underlying258 L K J I rfl J6 _ _ _ rfl (o.alloc _) ⟨wr.heap.size,0,none⟩ 1 1 [_] rfl rfl (cell_one_new _ _ _) (by intro u d;simp at d;subst d;rfl) (by unfold maxLen;omega) O0 X7 ?_;intro v' r x m _))
     go_roundw
     ·have A:=(p.alloc p.size _).grown m X7 (λj y=>(o.lt j y).1);have f:r.ownsRow w.heap.size 5 1 v' (t++[s[k]]).length (Lib.byteCells (t++[s[k]])):=by rw[S_,L9];exact x
      exact⟨k+1,t++[s[k]],O0,O0,by go_num,X7,f,Qo f O4,C,A,by have:=m.size;simp at this;omega⟩
     exact P9
    have C:=U0 (zK E.out (by rw[N.out]) (by rw[D.out];simp) (λa b c q _ h=>.inl (by rw[D.out]at h;injection h with h _;rw[<- h];omega)));clear B
    go_wp2_with(first|(go_at_call 205;refine(qM _ _).mono ?_;rintro e F⟨rfl,n⟩;obtain rfl:=n.symm)|(at_builtin;refine wpList_append_own _ rfl _ _ 258 rfl w.heap.size 5 H (.int .u8 0) 1 1 underlying258 L K J I rfl J6 _ _ _ rfl (o.alloc _) ⟨wr.heap.size,0,none⟩ 1 1 [_] rfl rfl (cell_one_new _ _ _) (by intro u d;simp at d;subst d;rfl) (by unfold maxLen;omega) O0 X7 ?_;intro v' r x m _))
    go_roundw
    ·have A:=(p.alloc p.size _).grown m X7 (λj y=>(o.lt j y).1);have f:r.ownsRow w.heap.size 5 1 v' (t++[s[k]]).length (Lib.byteCells (t++[s[k]])):=by rw[S_,L9];exact x
     exact⟨k+1,t++[s[k]],O0,O0,by go_num,X7,f,Qo f O4,C,A,by have:=m.size;simp at this;omega⟩
    exact P9
   have C:=U0 (zK E.out (by rw[N.out]) (by rw[D.out];simp) (λa b c q _ h=>by have hh:=U6 List.length h;simp at hh;omega));clear B
   go_wp2_with(first|(go_at_call 205;refine(qM _ _).mono ?_;rintro e F⟨rfl,n⟩;obtain rfl:=n.symm)|(at_builtin;refine wpList_append_own _ rfl _ _ 258 rfl w.heap.size 5 H (.int .u8 0) 1 1 underlying258 L K J I rfl J6 _ _ _ rfl (o.alloc _) ⟨wr.heap.size,0,none⟩ 1 1 [_] rfl rfl (cell_one_new _ _ _) (by intro u d;simp at d;subst d;rfl) (by unfold maxLen;omega) O0 X7 ?_;intro v' r x m _))
   go_roundw
   ·have A:=(p.alloc p.size _).grown m X7 (λj y=>(o.lt j y).1);have f:r.ownsRow w.heap.size 5 1 v' (t++[s[k]]).length (Lib.byteCells (t++[s[k]])):=by rw[S_,L9];exact x
    exact⟨k+1,t++[s[k]],O0,O0,by go_num,X7,f,Qo f O4,C,A,by have:=m.size;simp at this;omega⟩
   exact P9
  have e92:((s[k].toNat:Int)==92)=false:=by
   simp only[K_];intro e;exact B (Zh.1 (by
    have:s[k].toNat=92:=O0;rw[this];rfl))
  have C:=U0 (zK E.out (by rw[N.out]) (by rw[D.out];simp) (λa b c q h _=>absurd h B));clear B
  go_wp2_with(first|(go_at_call 205;refine(qM _ _).mono ?_;rintro e F⟨rfl,n⟩;obtain rfl:=n.symm)|(at_builtin;refine wpList_append_own _ rfl _ _ 258 rfl w.heap.size 5 H (.int .u8 0) 1 1 underlying258 L K J I rfl J6 _ _ _ rfl (o.alloc _) ⟨wr.heap.size,0,none⟩ 1 1 [_] rfl rfl (cell_one_new _ _ _) (by intro u d;simp at d;subst d;rfl) (by unfold maxLen;omega) O0 X7 ?_;intro v' r x m _))
  go_roundw
  ·have A:=(p.alloc p.size _).grown m X7 (λj y=>(o.lt j y).1);have f:r.ownsRow w.heap.size 5 1 v' (t++[s[k]]).length (Lib.byteCells (t++[s[k]])):=by rw[S_,L9];exact x
   exact⟨k+1,t++[s[k]],O0,O0,by go_num,X7,f,Qo f O4,C,A,by have:=m.size;simp at this;omega⟩
  exact P9
 have HE:=U0 (JW E.out X7);have HL:Hid (t.length<=s.size+1):=by show t.length<=s.size+1;omega
 obtain⟨g,Q,hv⟩:=hfm.out;subst hv;have hcv:=a2K o;go_wp2;go_ret;exact⟨⟨t,rfl,HL.out,HE.out⟩,p⟩
theorem a4E(x:G3)(l:Int)(w:World)(b:x.le 9223372036854775807)(h0:0<=l)(h1:l<=1048576):
 Calls prog 266 #[.agg #[.bool x.nm,.string x.tl,.string x.ar],.int .i64 l] w λe w'=>(∃r:Int,e=.returned (.int .i64 r)/\(0<=r->x.le 1048576/\r<=l))/\Bw w w':=by
 obtain⟨s2,s3⟩:=b;have a:Hid (∀r:Int,(0<=r->((x.tl.size:Int)<=l/\(x.ar.size:Int)<=l/\r<=l))->(0<=r->x.le 1048576/\r<=l)):=λr h g=>by
  have:=h g;exact⟨⟨O0,O0⟩,O0⟩
 by_cases h':l<x.tl.size
 ·go_in
  go_wp2;go_ret;exact⟨⟨-1,rfl,a _ λh=>O0⟩,P6⟩
 by_cases h'':l<x.tl.size+x.ar.size
 ·go_in
  go_wp2;go_ret;exact⟨⟨-1,rfl,a _ λh=>O0⟩,P6⟩
 go_in
 go_wp2;go_ret;exact⟨⟨_,rfl,a _ λh=>O0⟩,P6⟩
theorem kH{is:List G3}(h:∀i,i<is.length->(is.getD i ah).le B)(i:Nat):(is.getD i ah).le B:=by
 rcases P7 i is.length with a|a
 ·exact h i a
 have e:is.getD i ah=ah:=by simp[List.getD,Mc a]
 rw[e];exact⟨I4 _,I4 _⟩
theorem c203(a:OA)(A:Nat)(is:List G3)(l:Int)(w:World)(h0:0<=l)(h1:l<=1048576)(u:∀i,(is.getD i ah).le 9223372036854775807)(hl:is.length<=9223372036854775807)(z:W_ w a is):
 Calls prog 203 #[.slice a is.length A,.int .i64 l] w λe w'=>(∃r:Int,e=.returned (.int .i64 r)/\(0<=r->is.length<=1048576/\(∀i,(is.getD i ah).le 1048576)/\r<=l-is.length))/\Bw w w':=by
 obtain⟨b,off,hc⟩:=Lh z;have C:=U0 hc;by_cases hbig:l<is.length
 ·go_in
  go_wp2;go_ret;exact⟨⟨-1,rfl,λh=>O0⟩,J4 _ _⟩
 go_in
 go_wp2;go_loopw[1,5] (λs i wr=>∃(k:Nat)(r:Int),k<=is.length/\i=.int .i64 k/\s=.int .i64 r/\0<=r/\r<=l-is.length/\Hid (∀i,i<k->(is.getD i ah).le 1048576)/\Below w.heap.size w wr) (λ_ i _=>is.length-(RowKit.intOf i).toNat);exact⟨0,_,I4 _,rfl,rfl,O0,O0,λi h=>absurd h (U7 _),J4 _ _⟩;obtain⟨k,r,hk,rfl,rfl,v,n,m,c⟩:=hrel;by_cases d:k<is.length
 ·obtain⟨ha,j,g⟩:=Zb C.out d;subst ha;have g0:=(c.cell (by exact j)).trans (g k d).1;have g1:=(c.cell (by exact j)).trans (g k d).2.1;have g2:=(c.cell (by exact j)).trans (g k d).2.2;have t:=u k;generalize hx:is.getD k ah=x at*;have B:=U0 hx
  go_wp2_with fail
  refine(a4E x r wr t v O0).mono ?_;rintro e w1⟨⟨q,rfl,hr⟩,y⟩;have p:=P5 c y;by_cases hneg:q<0
  ·clear hr;go_wp2;go_ret;exact⟨⟨-1,rfl,λh=>O0⟩,p⟩
  have o:=hr O0;have f:Hid (∀i,i<k+1->(is.getD i ah).le 1048576):=by
   intro i h;rcases P7 i k with h1|h1
   ·exact m i h1
   obtain rfl:i=k:=O0;rw[B.out];exact o.1
  go_wp2;go_roundw;exact⟨k+1,_,O0,by go_num,rfl,O0,Int.le_trans o.2 n,f,p⟩;exact P9
 have f:=U0 (kH (λi h=>m.out i O0));go_wp2;go_ret;exact⟨⟨r,rfl,λ_=>⟨O0,f.out,n⟩⟩,c⟩
theorem XG{is:List R3}(h:∀i,i<is.length->(is.getD i j_).le B)(i:Nat):(is.getD i j_).le B:=by
 rcases P7 i is.length with a|a
 ·exact h i a
 have e:is.getD i j_=j_:=by simp[List.getD,Mc a]
 rw[e];exact⟨I4 _,I4 _,λi=>⟨I4 _,I4 _⟩,I4 _⟩
theorem a4k(x:R3)(a:OA)(d:Nat)(l:Int)(w:World)(o:x.le 9223372036854775807)(h0:0<=l)(h1:l<=1048576)(p:W_ w a x.gs):
 Calls prog 142 #[.agg #[.string x.key,.slice a x.gs.length d,.string x.out],.int .i64 l] w λe w'=>(∃r:Int,e=.returned (.int .i64 r)/\(0<=r->x.le 1048576/\r<=l-x.gs.length))/\Bw w w':=by
 obtain⟨s1,k,j,s4⟩:=o;have c:Bw w (w.alloc (.cells #[vS x.key,vL a x.gs.length d,vS x.out] 235)):=P6;by_cases h:l<x.key.size
 ·go_in
  go_wp2;go_ret;exact⟨⟨-1,rfl,λh=>O0⟩,c⟩
 have q:=c203 a d x.gs (l-x.key.size) _ O0 O0 j k (V8 p c)
 go_in
 go_wp2_with fail
 refine q.mono ?_;rintro e i⟨⟨f,rfl,hr⟩,g⟩;have b:=c.trans (g.mono O4);have g2:i.cell? ⟨w.heap.size,2,none⟩=some (vS x.out):=by rw[g.cell O4];simp
 by_cases hneg:f<0
 ·clear hr;go_wp2;go_ret;exact⟨⟨-1,rfl,λh=>O0⟩,b⟩
 obtain⟨n,m,q3⟩:=hr O0;have s:=U0 m;by_cases ho:f<x.out.size
 ·go_wp2;go_ret;exact⟨⟨-1,rfl,λh=>O0⟩,b⟩
 go_wp2;go_ret;exact⟨⟨_,rfl,λh=>⟨⟨O0,n,s.out,O0⟩,O0⟩⟩,b⟩
theorem c83(a:OA)(C:Nat)(is:List R3)(l:Int)(w:World)(h0:0<=l)(h1:l<=1048576)(s:∀i,(is.getD i j_).le 9223372036854775807)(hl:is.length<=9223372036854775807)(z:Eg w a is):
 Calls prog 83 #[.slice a is.length C,.int .i64 l] w λe w'=>(∃r:Int,e=.returned (.int .i64 r)/\(0<=r->is.length<=1048576/\(∀i,(is.getD i j_).le 1048576)/\r<=l-is.length-Iy is))/\Bw w w':=by
 obtain⟨b,off,hc⟩:=Ue z;have H:=U0 hc;have F:=U0 s;by_cases hbig:l<is.length
 ·go_in
  go_wp2;go_ret;exact⟨⟨-1,rfl,λh=>O0⟩,J4 _ _⟩
 go_in
 go_wp2;go_loopw[1,5] (λp i wr=>∃(k:Nat)(r:Int),k<=is.length/\i=.int .i64 k/\p=.int .i64 r/\0<=r/\r<=l-is.length-Iy (is.take k)/\Hid (∀i,i<k->(is.getD i j_).le 1048576)/\Below w.heap.size w wr) (λ_ i _=>is.length-(RowKit.intOf i).toNat);exact⟨0,_,I4 _,rfl,rfl,O0,by simp[Iy],λi h=>absurd h (U7 _),J4 _ _⟩;obtain⟨k,r,hk,rfl,rfl,t,j,g,f⟩:=hrel;by_cases d:k<is.length
 ·obtain⟨ha,v,u⟩:=Zb H.out d;subst ha;obtain⟨D,B,e0,e1,e2,A⟩:=(u k d).below v f;have q:=F.out k;have hgs:=mM d;generalize hx:is.getD k j_=x at*;have E:=U0 hx
  go_wp2_with fail
  refine(a4k x D B r wr q t O0 A).mono ?_;rintro e w1⟨⟨o,rfl,hr⟩,y⟩;have n:=P5 f y;by_cases hneg:o<0
  ·clear hr;go_wp2;go_ret;exact⟨⟨-1,rfl,λh=>O0⟩,n⟩
  have m:=hr O0;have c:Hid (∀i,i<k+1->(is.getD i j_).le 1048576):=by
   intro i h;rcases P7 i k with h1|h1
   ·exact g i h1
   obtain rfl:i=k:=O0;rw[E.out];exact m.1
  have hr2:=m.2;go_wp2;go_roundw;exact⟨k+1,_,O0,by go_num,rfl,O0,O0,c,n⟩;exact P9
 have c:=U0 (XG (λi h=>g.out i O0));go_wp2;go_ret;exact⟨⟨r,rfl,λ_=>⟨O0,c.out,by rw[p_ O0]at j;exact j⟩⟩,f⟩
theorem fG(ta ra:OA)(tc rc:Nat)(s:St)(l:Int)(w:World)(h0:0<=l)(hl:l<=1048576)(p:s.le 9223372036854775807)(g:Ig w ta ra s):
 Calls prog 30 #[.agg #[.int .i64 s.wd,.slice ta s.ts.length tc,.slice ra s.rs.length rc],.int .i64 l] w λe w'=>(∃r:Int,e=.returned (.int .i64 r)/\(0<=r->(s.le 1048576/\s.ts.length+s.rs.length+Iy s.rs<=1048576)/\r<=l))/\Bw w w':=by
 obtain⟨⟨h1,h2⟩,u,j⟩:=p;have a:Bw w (w.alloc (.cells #[vI s.wd,vL ta s.ts.length tc,vL ra s.rs.length rc] 30)):=P6;have c:=(Hid.out (show Hid (Ig _ ta ra s) from g.below a));have m:=c32 ta tc s.ts l _ h0 hl h2 h1 c.1;have y:=U0 j;have v:=U0 c.2;clear g c j h2
 go_in
 go_wp2_with fail
 refine m.mono ?_;rintro e w1⟨⟨d,rfl,hr⟩,hw⟩;obtain rfl:=hw;clear m;by_cases q:d<0
 ·clear hr;go_wp2;go_ret;exact⟨⟨-1,rfl,λh=>O0⟩,a⟩
 obtain⟨o,f,q3⟩:=hr O0;have x:=U0 f;clear hr f;have k:=c83 ra rc s.rs d _ O0 O0 y.out u v.out
 go_wp2_with fail
 refine k.mono ?_;rintro e w2⟨⟨n,rfl,hr⟩,t⟩;have i:=a.trans (t.mono O4);have b:=U0 hr;clear k hr;by_cases q:n<0
 ·go_wp2;go_ret;exact⟨⟨-1,rfl,λh=>O0⟩,i⟩
 have hr2:=(b.out O0).2.2;go_wp2;go_ret;exact⟨⟨_,rfl,λh=>⟨⟨⟨⟨o,x.out⟩,(b.out h).1,(b.out h).2.1⟩,O0⟩,O0⟩⟩,i⟩
theorem c139(c:Int)(s:BY)(w:World):
 Calls prog 139 #[.agg #[.int .i64 c,.string s],.agg #[.int .i64 c,.string s]] w λe w'=>e=.returned (.bool true)/\Bw w w':=by
 go_in
 go_wp2;go_ret;exact⟨rfl,P6.alloc O4 _⟩
theorem nG{is:List L4}(h:∀i,i<is.length->(is.getD i l_).le B)(i:Nat):(is.getD i l_).le B:=by
 rcases P7 i is.length with a|a
 ·exact h i a
 have e:is.getD i l_=l_:=by simp[List.getD,Mc a]
 rw[e];exact⟨I4 _,I4 _⟩
theorem a3c(x:L4)(w:World):
 Calls prog 265 #[.agg #[.bool x.has,.string x.nm,.int .i64 x.cd,.string x.tx],.agg #[.bool x.has,.string x.nm,.int .i64 x.cd,.string x.tx]] w λe w'=>e=.returned (.bool true)/\Bw w w':=by
 go_in
 go_wp2_with fail
 have hB:∀o1 o2,Bw w ((w.alloc o1).alloc o2):=λo1 o2=>P6.alloc O4 _;refine(c139 x.cd x.tx _).mono ?_;rintro e w1⟨rfl,a⟩;go_wp2;go_ret;exact⟨rfl,(hB _ _).trans (a.mono X7)⟩
theorem WZ(a o:OA)(s r:Nat)(is:List L4)(w:World)(hl:is.length<=1048576)(n:X6 w a is)(m:X6 w o is):
 Calls prog 199 #[.slice a is.length s,.slice o is.length r] w λe w'=>e=.returned (.bool true)/\Bw w w':=by
 obtain⟨b,off,hc⟩:=Ie n;have u:=U0 hc;clear hc n;obtain⟨b',off',l⟩:=Ie m;have t:=U0 l;clear l m
 go_in
 go_wp2;go_loopw[5] (λi wr=>∃(k:Nat),k<=is.length/\i=.int .i64 k/\Below w.heap.size w wr) (λi _=>is.length-(RowKit.intOf i).toNat);exact⟨0,I4 _,rfl,J4 _ _⟩;obtain⟨k,hk,rfl,c⟩:=hrel;by_cases d:k<is.length
 ·obtain⟨ha,j,g⟩:=Zb u.out d;obtain⟨q,h,f⟩:=Zb t.out d;subst ha;subst q;have g0:=(c.cell (by exact j)).trans (g k d).1;have g1:=(c.cell (by exact j)).trans (g k d).2.1;have g2:=(c.cell (by exact j)).trans (g k d).2.2.1;have g3:=(c.cell (by exact j)).trans (g k d).2.2.2;have g0':=(c.cell (by exact h)).trans (f k d).1;have g1':=(c.cell (by exact h)).trans (f k d).2.1;have g2':=(c.cell (by exact h)).trans (f k d).2.2.1;have g3':=(c.cell (by exact h)).trans (f k d).2.2.2;generalize is.getD k l_=x at*;clear g f
  go_wp2_with fail
  go_region_with(go_at_call 265;refine(a3c x _).mono ?_;rintro e w1⟨rfl,p⟩)
  all_goals go_wp2
  all_goals go_roundw
  all_goals first
   | exact⟨k+1,O0,by go_num,(c.drew).trans (p.mono c.size)⟩
   | (exact P9)
 go_wp2;go_ret;exact⟨rfl,c⟩
theorem c87(cd:Int)(tx:BY)(l:Int)(w:World)(hs:tx.size<=9223372036854775807)(h0:0<=l)(h1:l<=1048576):
 Calls prog 87 #[.agg #[.int .i64 cd,.string tx],.int .i64 l] w λe w'=>(∃r:Int,e=.returned (.int .i64 r)/\(0<=r->tx.size<=1048576/\r<=1048576))/\Bw w w':=by
 by_cases h':l<tx.size
 ·go_in
  go_wp2;go_ret;exact⟨⟨-1,rfl,λh=>O0⟩,P6⟩
 go_in
 go_wp2;go_ret;exact⟨⟨_,rfl,λh=>O0⟩,P6⟩
theorem a2V(x:L4)(l:Int)(w:World)(d:x.le 9223372036854775807)(h0:0<=l)(h1:l<=1048576):
 Calls prog 204 #[.agg #[.bool x.has,.string x.nm,.int .i64 x.cd,.string x.tx],.int .i64 l] w λe w'=>(∃r:Int,e=.returned (.int .i64 r)/\(0<=r->x.le 1048576/\r<=1048576))/\Bw w w':=by
 obtain⟨s2,c⟩:=d;by_cases h':l<x.nm.size
 ·go_in
  go_wp2;go_ret;exact⟨⟨-1,rfl,λh=>O0⟩,P6⟩
 have g:=λu=>c87 x.cd x.tx (l-x.nm.size) u c O0 O0
 go_in
 go_wp2_with fail
 refine(g _).mono ?_;rintro e w1⟨⟨r,rfl,hr⟩,f⟩;have b:=P6.trans (f.mono O4);by_cases hn:r<0
 ·clear hr;go_wp2;go_ret;exact⟨⟨-1,rfl,λh=>O0⟩,b⟩
 have a:=hr O0;clear hr;go_wp2;go_ret;exact⟨⟨r,rfl,λh=>⟨⟨O0,a.1⟩,a.2⟩⟩,b⟩
theorem c143(a:OA)(z:Nat)(is:List L4)(l:Int)(w:World)(h0:0<=l)(h1:l<=1048576)(u:∀i,(is.getD i l_).le 9223372036854775807)(hl:is.length<=9223372036854775807)(p:X6 w a is):
 Calls prog 143 #[.slice a is.length z,.int .i64 l] w λe w'=>(∃r:Int,e=.returned (.int .i64 r)/\(0<=r->is.length<=1048576/\(∀i,(is.getD i l_).le 1048576)/\r<=1048576))/\Bw w w':=by
 obtain⟨b,off,hc⟩:=Ie p;have B:=U0 hc;clear hc p;by_cases hbig:l<is.length
 ·go_in
  go_wp2;go_ret;exact⟨⟨-1,rfl,λh=>O0⟩,J4 _ _⟩
 go_in
 go_wp2;go_loopw[1,5] (λl i wr=>∃(k:Nat)(r:Int),k<=is.length/\i=.int .i64 k/\l=.int .i64 r/\0<=r/\r<=1048576/\Hid (∀i,i<k->(is.getD i l_).le 1048576)/\Below w.heap.size w wr) (λ_ i _=>is.length-(RowKit.intOf i).toNat);exact⟨0,_,I4 _,rfl,rfl,O0,O0,λi h=>absurd h (U7 _),J4 _ _⟩;obtain⟨k,r,hk,rfl,rfl,v,n,m,c⟩:=hrel;by_cases d:k<is.length
 ·obtain⟨ha,g,f⟩:=Zb B.out d;subst ha;have g0:=(c.cell (by exact g)).trans (f k d).1;have g1:=(c.cell (by exact g)).trans (f k d).2.1;have g2:=(c.cell (by exact g)).trans (f k d).2.2.1;have g3:=(c.cell (by exact g)).trans (f k d).2.2.2;have t:=u k;generalize hx:is.getD k l_=x at*;have A:=U0 hx;clear hx f
  go_wp2_with fail
  refine(a2V x r wr t v n).mono ?_;rintro e w1⟨⟨s,rfl,hr⟩,y⟩;have q:=P5 c y;by_cases hneg:s<0
  ·clear hr;go_wp2;go_ret;exact⟨⟨-1,rfl,λh=>O0⟩,q⟩
  have o:=hr O0;have j:Hid (∀i,i<k+1->(is.getD i l_).le 1048576):=by
   intro i h;rcases P7 i k with h1|h1
   ·exact m.out i h1
   obtain rfl:i=k:=O0;rw[A.out];exact o.1
  clear hr;go_wp2;go_roundw;exact⟨k+1,_,O0,by go_num,rfl,O0,o.2,j,q⟩;exact P9
 have j:=U0 (nG (λi h=>m.out i O0));go_wp2;go_ret;exact⟨⟨r,rfl,λ_=>⟨O0,j.out,n⟩⟩,c⟩
