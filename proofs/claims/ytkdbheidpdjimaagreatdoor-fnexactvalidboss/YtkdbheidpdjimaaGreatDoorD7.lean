import Derived.Test.YtkdbheidpdjimaaGreatDoorD5
import Derived.Laws.Cover1
set_option linter.unusedVariables false
set_option maxHeartbeats 8000000
set_option maxRecDepth 100000
namespace Go.Proofs.YtkdbheidpdjimaaGreatDoor
open Proofs.Tryz Go.RowKit
theorem Na (q:Nat) (h:q<1048577):IntKind.i64.wrap (q:Int)=(q:Int):=by
 have h1:(q:Int) % 2 ^ 64=q:=O0;simp only [IntKind.wrap,IntKind.bits,IntKind.signed,h1];rw [A8 U7]
theorem c159 (ta ra:OA) (tc rc:Nat) (s:St) (w:World) (hs:s.le 1048576) (hat:Zg w ta ra s):
 Calls prog 159 #[.agg #[.int .i64 s.wd,.slice ta s.ts.length tc,.slice ra s.rs.length rc]] w fun e w'=>Rb (dh s) e/\Bw w w':=by
 have HS:=U0 hs;obtain ⟨d,f,hct⟩:=Q_ hat.1;have HT:=U0 hct;obtain ⟨br,orr,hcr⟩:=Af hat.2;have HRc:=U0 hcr;have o:=hs.1.1;have hmm:=hs.2.1;clear hs hat hct hcr;obtain ⟨n,D⟩:∃ n,n=(w.alloc (.cells #[vI s.wd,vL ta s.ts.length tc,vL ra s.rs.length rc] 44)):=⟨_,rfl⟩;have HA0:=U0 D;have P:Bw w n:=by rw [D];exact o7
 have hAs:n.heap.size=w.heap.size+1:=by rw [D];simp
 have b0:n.cell? ⟨w.heap.size,0,none⟩=some (vI s.wd):=by rw [D];simp [go_sem]
 have b1:n.cell? ⟨w.heap.size,1,none⟩=some (vL ta s.ts.length tc):=by rw [D];simp [go_sem]
 have b2:n.cell? ⟨w.heap.size,2,none⟩=some (vL ra s.rs.length rc):=by rw [D];simp [go_sem]
 clear D;by_cases hW:1<=s.wd/\s.wd<=8
 · have hd:decide (1<=s.wd/\s.wd<=8)=true:=by simpa using hW
   have HW:=U0 hW;by_cases a2v:300<s.ts.length
   · have a:Hid (¬ dh s):=fun h=>by have:=h.2.1.1;omega
     go_enter func159,ntmps159
     go_wp2_with fail
     refine (c16 _ _).mono ?_;rintro e w' ⟨rfl,rfl⟩;rw [hd];go_wp2;go_ret;exact ⟨G5 a.out,HA0.out▸P⟩
   by_cases a3g:150<s.rs.length
   · have a:Hid (¬ dh s):=fun h=>by have:=h.2.2.1;omega
     go_enter func159,ntmps159
     go_wp2_with fail
     refine (c16 _ _).mono ?_;rintro e w' ⟨rfl,rfl⟩;rw [hd];go_wp2;go_ret;exact ⟨G5 a.out,HA0.out▸P⟩
   go_enter func159,ntmps159
   go_wp2_with fail
   refine (c16 _ _).mono ?_;rintro e w' ⟨rfl,hw'⟩;obtain rfl:=hw';rw [hd]
   go_wp2_with fail
   go_loopw [3] (fun i wr=>∃ (k:Nat),k<=s.ts.length/\i=.int .i64 k/\Hid (∀ j,j<k->StepT s.ts s.wd j)/\Below (w.heap.size+1) n wr) (fun i _=>s.ts.length - (intOf i).toNat)
   case atStart=>exact ⟨0,D5 _,rfl,fun j h=>absurd h (o9 _),by rw [HA0.out];exact Z4 _ _⟩
   case round=>
    obtain ⟨k,hk,rfl,L,hx⟩:=hrel;have A:=P.trans (hx.mono O0);have X:w.heap.size+1<=wr.heap.size:=by have:=hx.size;omega
    have a0:=(hx.cell (p:=⟨w.heap.size,0,none⟩) I4).trans b0;have a1:=(hx.cell (p:=⟨w.heap.size,1,none⟩) I4).trans b1;have a2:=(hx.cell (p:=⟨w.heap.size,2,none⟩) I4).trans b2;by_cases m:k<s.ts.length
    · obtain ⟨ha,O,N⟩:=Nc HT.out m;subst ha;have HCL:=U0 N;have g0:=(A.cell (p:=⟨d,f+k,none⟩) O).trans (N k m);have B:(s.ts.getD k ByteArray.empty).size<=1048700:=by have:=HS.out.1.2 k;omega
      have HST:Hid (StepT s.ts s.wd k↔(∃ c t,lD (s.ts.getD k ByteArray.empty).data.toList c t true)/\(k=0\/Op.bytesLess (E5 (s.ts.getD (k - 1) ByteArray.empty) s.wd).toList (E5 (s.ts.getD k ByteArray.empty) s.wd).toList=true)):=Iff.rfl;have HXX:Hid (∃ x,x=s.ts.getD k ByteArray.empty):=⟨_,rfl⟩;obtain ⟨x,H⟩:=HXX.out;rw [<- H] at g0 B HST;clear H HXX N
      go_wp2_with fail
      refine (c206 x _ B).mono ?_;rintro e w2 ⟨⟨c,t,ok,rfl,hr,_⟩,hb2⟩;have hfl:=OQ hr;have HFL:=U0 hfl;clear hr hfl;have I:Below (w.heap.size+1) n (w2.alloc (.cells #[vI c,vS (Y2 t)] 103)):=(hx.trans (hb2.mono X)).alloc (Q7 X hb2.size) _;have hA2:=P.trans (I.mono O0);clear hb2
      go_wp2_with fail
      generalize a5O:w2.alloc (.cells #[vI c,vS (Y2 t)] 103)=R at*;clear a5O;cases ok
      · have a:Hid (¬ dh s):=fun h=>by have:=HFL.out.2 ((HST.out.1 (h.2.1.2 k m)).1);cases this
        refine wp_region_held_drew (S:=(fun _=>True)) J3 ?_ fun hHeld=>?_
        · ((try dsimp only);(first | done | trivial))
        refine Y0 0 ?_;refine Y0 1 ?_;refine Y0 2 ?_;refine Y4 3 ?_;refine Y4 4 ?_;refine Y4 5 ?_;refine Y4 6 ?_;refine Y4 7 ?_;refine Y4 8 ?_;refine Y4 9 ?_;refine Y4 10 ?_;refine Y4 11 ?_;refine Y4 12 ?_;refine Y4 13 ?_;refine Y4 14 ?_;refine Y4 15 ?_;refine Y4 16 ?_;refine Y4 17 ?_;refine Y4 18 ?_;refine Y4 19 ?_;refine Y4 20 ?_;refine Y4 21 ?_;refine Y4 22 ?_;refine Y4 23 ?_;refine Y4 24 ?_;refine Y0 25 ?_;refine wdn ?_;clear hHeld;go_wp2;go_ret;exact ⟨G5 a.out,hA2.drew⟩
      · cases k with
        | zero=>
         have C:Hid (∀ j,j<0+1->StepT s.ts s.wd j):=fun j hj=>by
          obtain rfl:j=0:=O0;exact HST.out.2 ⟨HFL.out.1 rfl,.inl rfl⟩
         refine wp_region_held_drew (S:=(fun _=>True)) J3 ?_ fun hHeld=>?_
         · ((try dsimp only);(first | done | trivial))
         refine Y0 0 ?_;refine Y0 1 ?_;refine Y0 2 ?_;refine Y0 3 ?_;refine Y0 4 ?_;refine Y0 5 ?_;refine Y4 6 ?_;refine Y4 7 ?_;refine Y4 8 ?_;refine Y4 9 ?_;refine Y4 10 ?_;refine Y4 11 ?_;refine Y4 12 ?_;refine Y4 13 ?_;refine Y4 14 ?_;refine Y4 15 ?_;refine Y4 16 ?_;refine Y4 17 ?_;refine Y4 18 ?_;refine Y4 19 ?_;refine Y4 20 ?_;refine Y4 21 ?_;refine Y4 22 ?_;refine Y4 23 ?_;refine Y0 24 ?_;refine Y0 25 ?_;refine wdn ?_;clear hHeld;go_wp2;go_roundw
         case rel=>exact ⟨0+1,O0,by go_num,C,I.drew⟩
         case measure=>simp [intOf];omega
        | succ q=>
         have hW2:w.heap.size+1<=R.heap.size:=by have:=I.size;omega
         have z:w.heap.size<R.heap.size:=O0;have v:d<R.heap.size:=O0;have W:=(I.cell (p:=⟨w.heap.size,0,none⟩) I4).trans b0;have V:=(I.cell (p:=⟨w.heap.size,1,none⟩) I4).trans b1;have U:=(hA2.cell (p:=⟨d,f+q,none⟩) O).trans (HCL.out q O0);have k3':=(hA2.cell (p:=⟨d,f+(q+1),none⟩) O).trans (HCL.out (q+1) m);have hys:(s.ts.getD q ByteArray.empty).size<=1048700:=by have:=HS.out.1.2 q;omega
         have hge:s.ts.getD (q+1) ByteArray.empty=x:=by
          have e1:=(A.cell (p:=⟨d,f+(q+1),none⟩) O).trans (HCL.out (q+1) m);rw [g0] at e1;simpa using e1.symm
         have k3:R.cell? ⟨d,f+(q+1),none⟩=some (vS x):=by rw [k3',hge]
         have a4G:Hid (StepT s.ts s.wd (q+1)↔(∃ c t,lD x.data.toList c t true)/\(q+1=0\/Op.bytesLess (E5 (s.ts.getD q ByteArray.empty) s.wd).toList (E5 x s.wd).toList=true)):=HST.out;have HYY:Hid (∃ y,y=s.ts.getD q ByteArray.empty):=⟨_,rfl⟩;obtain ⟨y,F⟩:=HYY.out;rw [<- F] at U hys a4G;have J:q<s.ts.length:=O0;have hq0:0<=(q:Int)+1:=O0;have hq1:(q:Int)+1<(s.ts.length:Int):=O0;have hwq:=Na q O0;have a6H:=Na (q+1) O0;have hqq:((q+1:Nat):Int) - 1=(q:Int):=O0;clear F HYY k3' hge g0 HST a0 a1 a2;cases hy:Op.bytesLess (E5 y s.wd).toList (E5 x s.wd).toList
         · have a:Hid (¬ dh s):=fun h=>by
            have:=(a4G.out.1 (h.2.1.2 (q+1) m)).2;rcases this with h1 | h1
            · omega
            · rw [hy] at h1;cases h1
           refine wp_region_held_drew (S:=(fun u=>u.cell? ⟨w.heap.size,0,none⟩=some (vI s.wd)/\u.cell? ⟨w.heap.size,1,none⟩=some (vL (some ⟨d,f,none⟩) s.ts.length tc)/\u.cell? ⟨d,f+q,none⟩=some (vS y)/\u.cell? ⟨d,f+(q+1),none⟩=some (vS x))) J3 ?_ fun hHeld=>?_
           · ((try dsimp only);go_keep)
           refine Y0 0 ?_;refine Y0 1 ?_;refine Y0 2 ?_;refine Y0 3 ?_;refine Y0 4 ?_;refine Y0 5 ?_;refine Y0 6 ?_;refine Y0 7 ?_;refine Y0 8 ?_;refine Y0 9 ?_;refine Y0 10 ?_;refine Y0 11 ?_;refine Y0 12 ?_;refine Y0 13 ?_;refine Y0 15 ?_;refine Y0 16 ?_;refine Y0 17 ?_;refine Y0 18 ?_;refine Y0 19 ?_;refine Y0 20 ?_;refine Y0 21 ?_;refine rq 14 fun K b=>?_;go_simp;refine (Iw y s.wd _ hys).mono ?_;rintro e w3 ⟨rfl,hb3⟩;have l:Hid (Bw R w3):=(Z4 _ _).drew.trans hb3;have p30:=(l.out.cell (p:=⟨w.heap.size,0,none⟩) z).trans W;have p31:=(l.out.cell (p:=⟨w.heap.size,1,none⟩) z).trans V;have p32:=(l.out.cell (p:=⟨d,f+q,none⟩) v).trans U;have p33:=(l.out.cell (p:=⟨d,f+(q+1),none⟩) v).trans k3
           go_wp2_with fail
           clear hHeld;refine wF b fun hHeld=>?_;clear b K;refine rq 22 fun K b=>?_;go_simp;refine (Iw x s.wd _ B).mono ?_;rintro e w4 ⟨rfl,hb4⟩;have g:=U0 (G7 l.out hb4);have p40:=(g.out.cell (p:=⟨w.heap.size,0,none⟩) z).trans W;have p41:=(g.out.cell (p:=⟨w.heap.size,1,none⟩) z).trans V;have p42:=(g.out.cell (p:=⟨d,f+q,none⟩) v).trans U;have p43:=(g.out.cell (p:=⟨d,f+(q+1),none⟩) v).trans k3
           go_wp2_with fail
           clear hHeld;refine wF b fun hHeld=>?_;clear b K;refine Y0 23 ?_;refine Y0 24 ?_;refine Y0 25 ?_;refine wdn ?_;clear hHeld;have hB4:=hA2.trans (g.out.mono O0);go_wp2;go_ret;exact ⟨G5 a.out,hB4⟩
         · have C:Hid (∀ j,j<q+1+1->StepT s.ts s.wd j):=fun j hj=>by
            rcases o8 j (q+1) with h | h
            · exact L.out j h
            · obtain rfl:j=q+1:=O0;exact a4G.out.2 ⟨HFL.out.1 rfl,.inr hy⟩
           refine wp_region_held_drew (S:=(fun u=>u.cell? ⟨w.heap.size,0,none⟩=some (vI s.wd)/\u.cell? ⟨w.heap.size,1,none⟩=some (vL (some ⟨d,f,none⟩) s.ts.length tc)/\u.cell? ⟨d,f+q,none⟩=some (vS y)/\u.cell? ⟨d,f+(q+1),none⟩=some (vS x))) J3 ?_ fun hHeld=>?_
           · ((try dsimp only);go_keep)
           refine Y0 0 ?_;refine Y0 1 ?_;refine Y0 2 ?_;refine Y0 3 ?_;refine Y0 4 ?_;refine Y0 5 ?_;refine Y0 6 ?_;refine Y0 7 ?_;refine Y0 8 ?_;refine Y0 9 ?_;refine Y0 10 ?_;refine Y0 11 ?_;refine Y0 12 ?_;refine Y0 13 ?_;refine Y0 15 ?_;refine Y0 16 ?_;refine Y0 17 ?_;refine Y0 18 ?_;refine Y0 19 ?_;refine Y0 20 ?_;refine Y0 21 ?_;refine rq 14 fun K b=>?_;go_simp;refine (Iw y s.wd _ hys).mono ?_;rintro e w3 ⟨rfl,hb3⟩;have l:Hid (Bw R w3):=(Z4 _ _).drew.trans hb3;have p30:=(l.out.cell (p:=⟨w.heap.size,0,none⟩) z).trans W;have p31:=(l.out.cell (p:=⟨w.heap.size,1,none⟩) z).trans V;have p32:=(l.out.cell (p:=⟨d,f+q,none⟩) v).trans U;have p33:=(l.out.cell (p:=⟨d,f+(q+1),none⟩) v).trans k3
           go_wp2_with fail
           clear hHeld;refine wF b fun hHeld=>?_;clear b K;refine rq 22 fun K b=>?_;go_simp;refine (Iw x s.wd _ B).mono ?_;rintro e w4 ⟨rfl,hb4⟩;have g:=U0 (G7 l.out hb4);have p40:=(g.out.cell (p:=⟨w.heap.size,0,none⟩) z).trans W;have p41:=(g.out.cell (p:=⟨w.heap.size,1,none⟩) z).trans V;have p42:=(g.out.cell (p:=⟨d,f+q,none⟩) v).trans U;have p43:=(g.out.cell (p:=⟨d,f+(q+1),none⟩) v).trans k3
           go_wp2_with fail
           clear hHeld;refine wF b fun hHeld=>?_;clear b K;refine Y0 23 ?_;refine Y0 24 ?_;refine Y0 25 ?_;refine wdn ?_;clear hHeld;have hx4:=I.trans (g.out.mono hW2);go_wp2;go_roundw
           case rel=>exact ⟨q+1+1,O0,by go_num,C,hx4⟩
           case measure=>simp [intOf];omega
    · have HTX:Hid (NJ s.ts s.wd):=⟨O0,fun i hi=>L.out i O0⟩;clear L
      go_wp2_with fail
      clear a0 a1 a2 A X;go_loopw [6] (fun i wr=>∃ (k:Nat),k<=s.rs.length/\i=.int .i64 k/\Hid (∀ j,j<k->lH s.wd (s.rs.getD j g_))/\Below (w.heap.size+1) n wr) (fun i _=>s.rs.length - (intOf i).toNat)
      case atStart=>exact ⟨0,D5 _,rfl,fun j h=>absurd h (o9 _),hx⟩
      case round=>
       clear hx;obtain ⟨k,hk,rfl,L,hx⟩:=hrel;obtain ⟨wq,hwq⟩:∃ wq,wq=wr:=⟨_,rfl⟩;subst hwq;have A:=P.trans (hx.mono O0);have X:w.heap.size+1<=wq.heap.size:=by have:=hx.size;omega
       have a0:=(hx.cell (p:=⟨w.heap.size,0,none⟩) I4).trans b0;have a2:=(hx.cell (p:=⟨w.heap.size,2,none⟩) I4).trans b2;by_cases m:k<s.rs.length
       · obtain ⟨ha,O,N⟩:=Nc HRc.out m;subst ha;obtain ⟨ai,E,e0,e1,e2,e3⟩:=(N k m).below O A;have B:=HS.out.2.2 k;have HXX:Hid (∃ x,x=s.rs.getD k g_):=⟨_,rfl⟩;obtain ⟨x,H⟩:=HXX.out;rw [<- H] at e0 e1 e2 e3 B;have HX:=U0 H;have HGL:=U0 e3;obtain ⟨x1,x2,x3,x4⟩:=B;have HX3:=U0 x3;clear H HXX N e3 x3;have HNO:Hid (¬ lH s.wd x->¬ dh s):=fun o h=>o (HX.out▸h.2.2.2 k m);have hAq:Bw wq (wq.alloc (.cells #[vS x.key,vL ai x.gs.length E,vS x.out] 113)):=o7;have hBq:Bw w (wq.alloc (.cells #[vS x.key,vL ai x.gs.length E,vS x.out] 113)):=A.alloc A.size _;have a0':=past (by show w.heap.size<wq.heap.size;omega) a0;by_cases h1:x.key.size<=321
         · by_cases h2:(x.out.size:Int)=s.wd
           · by_cases h3:x.gs.length<=15
             · have HH:Hid (x.key.size<=321/\(x.out.size:Int)=s.wd/\x.gs.length<=15):=⟨h1,h2,h3⟩
               go_wp2_with fail
               go_loopw [8] (fun i wr=>∃ (q:Nat),q<=x.gs.length/\i=.int .i64 q/\Hid (∀ j,j<q->OW s.wd (x.gs.getD j Yg))/\Below (wq.heap.size+1) (wq.alloc (.cells #[.string x.key,.slice ai x.gs.length E,.string x.out] 113)) wr) (fun i _=>x.gs.length - (intOf i).toNat)
               case atStart=>exact ⟨0,D5 _,rfl,fun j h=>absurd h (o9 _),Z4 _ _⟩
               case round=>
                obtain ⟨q,hq,rfl,hdg,Z⟩:=hrel;have hBg:=hBq.trans (Z.mono O0);have hqg:=hAq.trans (Z.mono O0);have hzg:wq.heap.size+1<=wr.heap.size:=by have:=Z.size;simpa using this
                have W:=(hqg.cell (p:=⟨w.heap.size,0,none⟩) (by show w.heap.size<wq.heap.size;omega)).trans a0;have V:wr.cell? ⟨wq.heap.size,1,none⟩=some (vL ai x.gs.length E):=(Z.cell (p:=⟨wq.heap.size,1,none⟩) I4).trans (by simp [go_sem]);by_cases J:q<x.gs.length
                · obtain ⟨r,oi,hci⟩:=Oh (O8 HGL.out hqg);obtain ⟨hai,a6I,hgc⟩:=Nc hci J;subst hai;have g1:=(hgc q J).2.1;have g2:=(hgc q J).2.2;have a5P:=(HX3.out q).1;have HYY:Hid (∃ y,y=x.gs.getD q Yg):=⟨_,rfl⟩;obtain ⟨y,F⟩:=HYY.out;rw [<- F] at g1 g2 a5P;have HY:=U0 F;have hyl:y.tl.size<=1048700:=O0;clear F HYY hgc;cases o:o6 y.tl.data.toList
                  · have a:Hid (¬ dh s):=HNO.out fun h=>by have:=(h.2 q J).1;rw [<- HY.out,o] at this;cases this
                    have Q:=c23 y.tl;rw [o] at Q
                    go_wp2_with fail
                    refine wp_region_held_drew (S:=(fun u=>u.cell? ⟨w.heap.size,0,none⟩=some (vI s.wd)/\u.cell? ⟨wq.heap.size,1,none⟩=some (vL (some ⟨r,oi,none⟩) x.gs.length E)/\u.cell? ⟨r,oi+q*3+1,none⟩=some (vS y.tl)/\u.cell? ⟨r,oi+q*3+2,none⟩=some (vS y.ar))) J3 ?_ fun hHeld=>?_
                    · ((try dsimp only);go_keep)
                    refine Y0 0 ?_;refine Y0 1 ?_;refine Y0 2 ?_;refine Y0 3 ?_;refine Y0 4 ?_;refine Y0 5 ?_;refine rq 6 fun K b=>?_;go_simp;refine (Q _ hyl).mono ?_;rintro e wz ⟨rfl,Y⟩;obtain rfl:=Y
                    go_wp2_with fail
                    clear hHeld;refine wF b fun hHeld=>?_;clear b K;refine Y0 7 ?_;refine Y0 8 ?_;refine Y4 9 ?_;refine Y4 10 ?_;refine Y4 11 ?_;refine Y4 12 ?_;refine Y4 13 ?_;refine Y4 14 ?_;refine Y4 15 ?_;refine Y4 16 ?_;refine Y4 17 ?_;refine Y4 18 ?_;refine Y0 19 ?_;refine wdn ?_;clear hHeld;go_wp2;go_ret;exact ⟨G5 a.out,hBg.drew⟩
                  · have Q:=c23 y.tl;rw [o] at Q;by_cases hw:(y.ar.size:Int)=s.wd
                    · have C:Hid (∀ j,j<q+1->OW s.wd (x.gs.getD j Yg)):=fun j hj=>by
                       rcases o8 j q with h | h
                       · exact hdg.out j h
                       · obtain rfl:j=q:=O0;rw [<- HY.out];exact ⟨o,hw⟩
                      have hw':((y.ar.size:Int) !=s.wd)=false:=by simpa using hw
                      clear o
                      go_wp2_with fail
                      refine wp_region_held_drew (S:=(fun u=>u.cell? ⟨w.heap.size,0,none⟩=some (vI s.wd)/\u.cell? ⟨wq.heap.size,1,none⟩=some (vL (some ⟨r,oi,none⟩) x.gs.length E)/\u.cell? ⟨r,oi+q*3+1,none⟩=some (vS y.tl)/\u.cell? ⟨r,oi+q*3+2,none⟩=some (vS y.ar))) J3 ?_ fun hHeld=>?_
                      · ((try dsimp only);go_keep)
                      refine Y0 0 ?_;refine Y0 1 ?_;refine Y0 2 ?_;refine Y0 3 ?_;refine Y0 4 ?_;refine Y0 5 ?_;refine rq 6 fun K b=>?_;go_simp;refine (Q _ hyl).mono ?_;rintro e wz ⟨rfl,Y⟩;obtain rfl:=Y
                      go_wp2_with fail
                      clear hHeld;refine wF b fun hHeld=>?_;clear b K;refine Y0 7 ?_;refine Y0 8 ?_;refine Y0 9 ?_;refine Y0 10 ?_;refine Y0 11 ?_;refine Y0 12 ?_;refine Y0 13 ?_;refine Y0 14 ?_;refine Y0 15 ?_;refine Y0 16 ?_;refine Y0 17 ?_;refine Y0 18 ?_;refine Y0 19 ?_;refine wdn ?_;clear hHeld;go_wp2;go_roundw
                      case rel=>exact ⟨q+1,O0,by go_num,C,Z.drew⟩
                      case measure=>simp [intOf];omega
                    · have a:=U0 (HNO.out fun h=>hw (by have:=(h.2 q J).2;rw [<- HY.out] at this;exact this));have hw':((y.ar.size:Int) !=s.wd)=true:=by simpa using hw
                      have hw2:((y.ar.size:Int)==s.wd)=false:=by simpa using hw
                      clear o
                      go_wp2_with fail
                      refine wp_region_held_drew (S:=(fun u=>u.cell? ⟨w.heap.size,0,none⟩=some (vI s.wd)/\u.cell? ⟨wq.heap.size,1,none⟩=some (vL (some ⟨r,oi,none⟩) x.gs.length E)/\u.cell? ⟨r,oi+q*3+1,none⟩=some (vS y.tl)/\u.cell? ⟨r,oi+q*3+2,none⟩=some (vS y.ar))) J3 ?_ fun hHeld=>?_
                      · ((try dsimp only);go_keep)
                      refine Y0 0 ?_;refine Y0 1 ?_;refine Y0 2 ?_;refine Y0 3 ?_;refine Y0 4 ?_;refine Y0 5 ?_;refine rq 6 fun K b=>?_;go_simp;refine (Q _ hyl).mono ?_;rintro e wz ⟨rfl,Y⟩;obtain rfl:=Y
                      go_wp2_with fail
                      clear hHeld;refine wF b fun hHeld=>?_;clear b K;refine Y0 7 ?_;refine Y0 8 ?_;refine Y0 9 ?_;refine Y0 10 ?_;refine Y0 11 ?_;refine Y0 12 ?_;refine Y0 13 ?_;refine Y0 14 ?_;refine Y0 15 ?_;refine Y0 16 ?_;refine Y0 17 ?_;refine Y0 18 ?_;refine Y0 19 ?_;refine wdn ?_;clear hHeld;go_wp2;go_ret;exact ⟨G5 a.out,hBg.drew⟩
                · have C:Hid (∀ j,j<k+1->lH s.wd (s.rs.getD j g_)):=fun j hj=>by
                   rcases o8 j k with h | h
                   · exact L.out j h
                   · obtain rfl:j=k:=O0;rw [<- HX.out];exact ⟨HH.out,fun i hi=>hdg.out i O0⟩
                  have hxg:=hx.trans (hqg.mono X);go_wp2;go_roundw
                  case rel=>exact ⟨k+1,O0,by go_num,C,hxg⟩
                  case measure=>simp [intOf];omega
             · have a:=U0 (HNO.out fun h=>h3 h.1.2.2);have h3':15<x.gs.length:=O0;go_wp2;go_ret;exact ⟨G5 a.out,hBq⟩
           · have a:=U0 (HNO.out fun h=>h2 h.1.2.1);have h2':((x.out.size:Int) !=s.wd)=true:=by simpa using h2
             have a6J:((x.out.size:Int)==s.wd)=false:=by simpa using h2
             go_wp2;go_ret;exact ⟨G5 a.out,hBq⟩
         · have a:=U0 (HNO.out fun h=>h1 h.1.1);go_wp2;go_ret;exact ⟨G5 a.out,hBq⟩
       · have a:Hid (dh s):=⟨HW.out,HTX.out,O0,fun i hi=>L.out i O0⟩;go_wp2;go_ret;exact ⟨C_ a.out,A⟩
 · have hd:decide (1<=s.wd/\s.wd<=8)=false:=by simpa using hW
   have a:Hid (¬ dh s):=fun h=>hW h.1;go_enter func159,ntmps159
   go_wp2_with fail
   refine (c16 _ _).mono ?_;rintro e w' ⟨rfl,rfl⟩;rw [hd];go_wp2;go_ret;exact ⟨G5 a.out,HA0.out▸P⟩
