import Derived.Test.YtlckdgjfniglfaaGreatDoorEP3
import Derived.Laws.Cover1
set_option linter.unusedVariables false
set_option linter.unusedSimpArgs false
set_option maxHeartbeats 8000000
set_option maxRecDepth 100000
namespace Go.Proofs.YtlckdgjfniglfaaGreatDoor
open Proofs.Tryz
open Go.RowKit
theorem wrap_nat (q:Nat) (h:q<1048577):IntKind.i64.wrap (q:Int)=(q:Int):=by
 have h1:(q:Int) % 2 ^ 64=q:=om_;simp only [IntKind.wrap,IntKind.bits,IntKind.signed,h1];rw [if_neg so_]
theorem c69 (ta ra:Option Addr) (tc rc:Nat) (s:St) (w:World) (hs:s.le 1048576) (hat:StAt w ta ra s):
 Calls prog 69 #[.agg #[.int .i64 s.wd,.slice ta s.ts.length tc,.slice ra s.rs.length rc]] w fun e w'=>Rb (StOk s) e/\Below w.heap.size w w':=by
 have HS:Hid (s.le 1048576):=hs;obtain ⟨bt,ot,hct⟩:=strs_some hat.1;have HT:Hid (s.ts=[]\/(ta=some ⟨bt,ot,none⟩/\bt<w.heap.size/\∀ i,i<s.ts.length->w.cell? ⟨bt,ot+i,none⟩=some (.string (s.ts.getD i ByteArray.empty)))):=hct;obtain ⟨br,orr,hcr⟩:=recs_some hat.2;have HRc:Hid (s.rs=[]\/(ra=some ⟨br,orr,none⟩/\br<w.heap.size/\∀ i,i<s.rs.length->RecAt w br (orr+i*3) (s.rs.getD i r3z))):=hcr;have hn:s.ts.length<=1048576:=hs.1.1;have hmm:s.rs.length<=1048576:=hs.2.1;clear hs hat hct hcr;obtain ⟨A0,hA0⟩:∃ A0,A0=(w.alloc (.cells #[.int .i64 s.wd,.slice ta s.ts.length tc,.slice ra s.rs.length rc] 29)):=⟨_,rfl⟩;have HA0:Hid (A0=(w.alloc (.cells #[.int .i64 s.wd,.slice ta s.ts.length tc,.slice ra s.rs.length rc] 29))):=hA0;have hB0:Below w.heap.size w A0:=by rw [hA0];exact bA_
 have hAs:A0.heap.size=w.heap.size+1:=by rw [hA0];simp
 have b0:A0.cell? ⟨w.heap.size,0,none⟩=some (.int .i64 s.wd):=by rw [hA0];simp [go_sem]
 have b1:A0.cell? ⟨w.heap.size,1,none⟩=some (.slice ta s.ts.length tc):=by rw [hA0];simp [go_sem]
 have b2:A0.cell? ⟨w.heap.size,2,none⟩=some (.slice ra s.rs.length rc):=by rw [hA0];simp [go_sem]
 clear hA0;by_cases hW:1<=s.wd/\s.wd<=8
 · have hd:decide (1<=s.wd/\s.wd<=8)=true:=by simpa using hW
   have HW:Hid (1<=s.wd/\s.wd<=8):=hW;by_cases h300:300<s.ts.length
   · have HR:Hid (¬ StOk s):=fun h=>by have:=h.2.1.1;omega
     go_enter func69,ntmps69
     go_wp2_with fail
     refine (c13 _ _).mono ?_;rintro e w' ⟨rfl,rfl⟩;rw [hd];go_wp2;go_ret;exact ⟨rb_no HR.out,HA0.out▸hB0⟩
   by_cases h150:150<s.rs.length
   · have HR:Hid (¬ StOk s):=fun h=>by have:=h.2.2.1;omega
     go_enter func69,ntmps69
     go_wp2_with fail
     refine (c13 _ _).mono ?_;rintro e w' ⟨rfl,rfl⟩;rw [hd];go_wp2;go_ret;exact ⟨rb_no HR.out,HA0.out▸hB0⟩
   go_enter func69,ntmps69
   go_wp2_with fail
   refine (c13 _ _).mono ?_;rintro e w' ⟨rfl,hw'⟩;obtain rfl:=hw';rw [hd]
   go_wp2_with fail
   go_loopw [3] (fun i wr=>∃ (k:Nat),k<=s.ts.length/\i=.int .i64 k/\Hid (∀ j,j<k->StepT s.ts s.wd j)/\Below (w.heap.size+1) A0 wr) (fun i _=>s.ts.length - (intOf i).toNat)
   case atStart=>exact ⟨0,Nat.zero_le _,rfl,fun j h=>absurd h (Nat.not_lt_zero _),by rw [HA0.out];exact Below.refl _ _⟩
   case round=>
    obtain ⟨k,hk,rfl,hdone,hx⟩:=hrel;have hb:Below w.heap.size w wr:=hB0.trans (hx.mono om_);have hzr:w.heap.size+1<=wr.heap.size:=by have:=hx.size;omega
    have a0:wr.cell? ⟨w.heap.size,0,none⟩=some (.int .i64 s.wd):=(hx.cell (p:=⟨w.heap.size,0,none⟩) sm_).trans b0;have a1:wr.cell? ⟨w.heap.size,1,none⟩=some (.slice ta s.ts.length tc):=(hx.cell (p:=⟨w.heap.size,1,none⟩) sm_).trans b1;have a2:wr.cell? ⟨w.heap.size,2,none⟩=some (.slice ra s.rs.length rc):=(hx.cell (p:=⟨w.heap.size,2,none⟩) sm_).trans b2;by_cases hlt:k<s.ts.length
    · rcases HT.out with hss | ⟨ha,hbw,hcell⟩
      · rw [hss] at hlt;exact absurd hlt (Nat.not_lt_zero _)
      subst ha;have HCL:Hid (∀ i,i<s.ts.length->w.cell? ⟨bt,ot+i,none⟩=some (.string (s.ts.getD i ByteArray.empty))):=hcell;have g0:=(hb.cell (p:=⟨bt,ot+k,none⟩) hbw).trans (hcell k hlt);have hxs:(s.ts.getD k ByteArray.empty).size<=1048700:=by have:=HS.out.1.2 k;omega
      have HST:Hid (StepT s.ts s.wd k↔(∃ c t,IsR (s.ts.getD k ByteArray.empty).data.toList c t true)/\(k=0\/Op.bytesLess (sumS (s.ts.getD (k - 1) ByteArray.empty) s.wd).toList (sumS (s.ts.getD k ByteArray.empty) s.wd).toList=true)):=Iff.rfl;have HXX:Hid (∃ x,x=s.ts.getD k ByteArray.empty):=⟨_,rfl⟩;obtain ⟨x,hxe⟩:=HXX.out;rw [<- hxe] at g0 hxs HST;clear hxe HXX hcell
      go_wp2_with fail
      refine (c108 x _ hxs).mono ?_;rintro e w2 ⟨⟨c,t,ok,rfl,hr,_⟩,hb2⟩;have hfl:=isR_flag hr;have HFL:Hid (ok=true↔∃ c t,IsR x.data.toList c t true):=hfl;clear hr hfl;have hx2:Below (w.heap.size+1) A0 (w2.alloc (.cells #[.int .i64 c,.string (ofL t)] 45)):=(hx.trans (hb2.mono hzr)).alloc (Nat.le_trans hzr hb2.size) _;have hA2:Below w.heap.size w (w2.alloc (.cells #[.int .i64 c,.string (ofL t)] 45)):=hB0.trans (hx2.mono om_);clear hb2
      go_wp2_with fail
      generalize hW2e:w2.alloc (.cells #[.int .i64 c,.string (ofL t)] 45)=W2 at*;clear hW2e;cases ok
      · have HR:Hid (¬ StOk s):=fun h=>by have:=HFL.out.2 ((HST.out.1 (h.2.1.2 k hlt)).1);cases this
        refine wp_region_held_drew (S:=(fun _=>True)) kr_ ?_ fun hHeld=>?_
        · ((try dsimp only);(first | done | trivial))
        refine tq 0 hHeld ?_
        try simp only [qq]
        refine tq 1 hHeld ?_
        try simp only [qq]
        refine tq 2 hHeld ?_
        try simp only [qq]
        refine uq 3 hHeld ?_
        try simp only [qq]
        refine uq 4 hHeld ?_
        try simp only [qq]
        refine uq 5 hHeld ?_
        try simp only [qq]
        refine uq 6 hHeld ?_
        try simp only [qq]
        refine uq 7 hHeld ?_
        try simp only [qq]
        refine uq 8 hHeld ?_
        try simp only [qq]
        refine uq 9 hHeld ?_
        try simp only [qq]
        refine uq 10 hHeld ?_
        try simp only [qq]
        refine uq 11 hHeld ?_
        try simp only [qq]
        refine uq 12 hHeld ?_
        try simp only [qq]
        refine uq 13 hHeld ?_
        try simp only [qq]
        refine uq 14 hHeld ?_
        try simp only [qq]
        refine uq 15 hHeld ?_
        try simp only [qq]
        refine uq 16 hHeld ?_
        try simp only [qq]
        refine uq 17 hHeld ?_
        try simp only [qq]
        refine uq 18 hHeld ?_
        try simp only [qq]
        refine uq 19 hHeld ?_
        try simp only [qq]
        refine uq 20 hHeld ?_
        try simp only [qq]
        refine uq 21 hHeld ?_
        try simp only [qq]
        refine uq 22 hHeld ?_
        try simp only [qq]
        refine uq 23 hHeld ?_
        try simp only [qq]
        refine uq 24 hHeld ?_
        try simp only [qq]
        refine tq 25 hHeld ?_
        try simp only [qq]
        refine wpAnyH_done kr_ ?_ _;clear hHeld;go_wp2;go_ret;exact ⟨rb_no HR.out,hA2.drew⟩
      · cases k with
        | zero=>
         have hd':Hid (∀ j,j<0+1->StepT s.ts s.wd j):=fun j hj=>by
          obtain rfl:j=0:=om_;exact HST.out.2 ⟨HFL.out.1 rfl,.inl rfl⟩
         refine wp_region_held_drew (S:=(fun _=>True)) kr_ ?_ fun hHeld=>?_
         · ((try dsimp only);(first | done | trivial))
         refine tq 0 hHeld ?_
         try simp only [qq]
         refine tq 1 hHeld ?_
         try simp only [qq]
         refine tq 2 hHeld ?_
         try simp only [qq]
         refine tq 3 hHeld ?_
         try simp only [qq]
         refine tq 4 hHeld ?_
         try simp only [qq]
         refine tq 5 hHeld ?_
         try simp only [qq]
         refine uq 6 hHeld ?_
         try simp only [qq]
         refine uq 7 hHeld ?_
         try simp only [qq]
         refine uq 8 hHeld ?_
         try simp only [qq]
         refine uq 9 hHeld ?_
         try simp only [qq]
         refine uq 10 hHeld ?_
         try simp only [qq]
         refine uq 11 hHeld ?_
         try simp only [qq]
         refine uq 12 hHeld ?_
         try simp only [qq]
         refine uq 13 hHeld ?_
         try simp only [qq]
         refine uq 14 hHeld ?_
         try simp only [qq]
         refine uq 15 hHeld ?_
         try simp only [qq]
         refine uq 16 hHeld ?_
         try simp only [qq]
         refine uq 17 hHeld ?_
         try simp only [qq]
         refine uq 18 hHeld ?_
         try simp only [qq]
         refine uq 19 hHeld ?_
         try simp only [qq]
         refine uq 20 hHeld ?_
         try simp only [qq]
         refine uq 21 hHeld ?_
         try simp only [qq]
         refine uq 22 hHeld ?_
         try simp only [qq]
         refine uq 23 hHeld ?_
         try simp only [qq]
         refine tq 24 hHeld ?_
         try simp only [qq]
         refine tq 25 hHeld ?_
         try simp only [qq]
         refine wpAnyH_done kr_ ?_ _;clear hHeld;go_wp2;go_roundw
         case rel=>exact ⟨0+1,om_,by go_num,hd',hx2.drew⟩
         case measure=>simp [intOf];omega
        | succ q=>
         have hW2:w.heap.size+1<=W2.heap.size:=by have:=hx2.size;omega
         have hz0:w.heap.size<W2.heap.size:=om_;have hzb:bt<W2.heap.size:=om_;have k0:W2.cell? ⟨w.heap.size,0,none⟩=some (.int .i64 s.wd):=(hx2.cell (p:=⟨w.heap.size,0,none⟩) sm_).trans b0;have k1:W2.cell? ⟨w.heap.size,1,none⟩=some (.slice (some ⟨bt,ot,none⟩) s.ts.length tc):=(hx2.cell (p:=⟨w.heap.size,1,none⟩) sm_).trans b1;have k2:=(hA2.cell (p:=⟨bt,ot+q,none⟩) hbw).trans (HCL.out q om_);have k3':=(hA2.cell (p:=⟨bt,ot+(q+1),none⟩) hbw).trans (HCL.out (q+1) hlt);have hys:(s.ts.getD q ByteArray.empty).size<=1048700:=by have:=HS.out.1.2 q;omega
         have hge:s.ts.getD (q+1) ByteArray.empty=x:=by
          have e1:=(hb.cell (p:=⟨bt,ot+(q+1),none⟩) hbw).trans (HCL.out (q+1) hlt);rw [g0] at e1;simpa using e1.symm
         have k3:W2.cell? ⟨bt,ot+(q+1),none⟩=some (.string x):=by rw [k3',hge]
         have HST':Hid (StepT s.ts s.wd (q+1)↔(∃ c t,IsR x.data.toList c t true)/\(q+1=0\/Op.bytesLess (sumS (s.ts.getD q ByteArray.empty) s.wd).toList (sumS x s.wd).toList=true)):=HST.out;have HYY:Hid (∃ y,y=s.ts.getD q ByteArray.empty):=⟨_,rfl⟩;obtain ⟨y,hye⟩:=HYY.out;rw [<- hye] at k2 hys HST';have hql:q<s.ts.length:=om_;have hq0:0<=(q:Int)+1:=om_;have hq1:(q:Int)+1<(s.ts.length:Int):=om_;have hwq:=wrap_nat q om_;have hwq':=wrap_nat (q+1) om_;have hqq:((q+1:Nat):Int) - 1=(q:Int):=om_;clear hye HYY k3' hge g0 HST a0 a1 a2;cases hy:Op.bytesLess (sumS y s.wd).toList (sumS x s.wd).toList
         · have HR:Hid (¬ StOk s):=fun h=>by
            have:=(HST'.out.1 (h.2.1.2 (q+1) hlt)).2;rcases this with h1 | h1
            · omega
            · rw [hy] at h1;cases h1
           refine wp_region_held_drew (S:=(fun u=>u.cell? ⟨w.heap.size,0,none⟩=some (.int .i64 s.wd)/\u.cell? ⟨w.heap.size,1,none⟩=some (.slice (some ⟨bt,ot,none⟩) s.ts.length tc)/\u.cell? ⟨bt,ot+q,none⟩=some (.string y)/\u.cell? ⟨bt,ot+(q+1),none⟩=some (.string x))) kr_ ?_ fun hHeld=>?_
           · ((try dsimp only);go_keep)
           refine tq 0 hHeld ?_
           try simp only [qq]
           refine tq 1 hHeld ?_
           try simp only [qq]
           refine tq 2 hHeld ?_
           try simp only [qq]
           refine tq 3 hHeld ?_
           try simp only [qq]
           refine tq 4 hHeld ?_
           try simp only [qq]
           refine tq 5 hHeld ?_
           try simp only [qq]
           refine tq 6 hHeld ?_
           try simp only [qq]
           refine tq 7 hHeld ?_
           try simp only [qq]
           refine tq 8 hHeld ?_
           try simp only [qq]
           refine tq 9 hHeld ?_
           try simp only [qq]
           refine tq 10 hHeld ?_
           try simp only [qq]
           refine tq 11 hHeld ?_
           try simp only [qq]
           refine tq 12 hHeld ?_
           try simp only [qq]
           refine tq 13 hHeld ?_
           try simp only [qq]
           refine tq 15 hHeld ?_
           try simp only [qq]
           refine tq 16 hHeld ?_
           try simp only [qq]
           refine tq 17 hHeld ?_
           try simp only [qq]
           refine tq 18 hHeld ?_
           try simp only [qq]
           refine tq 19 hHeld ?_
           try simp only [qq]
           refine tq 20 hHeld ?_
           try simp only [qq]
           refine tq 21 hHeld ?_
           try simp only [qq]
           refine rq 14 fun K hK=>?_;go_simp;refine (c109 y s.wd _ hys).mono ?_;rintro e w3 ⟨rfl,hb3⟩;have HB3:Hid (Below W2.heap.size W2 w3):=(Below.refl _ _).drew.trans hb3;have p30:=(HB3.out.cell (p:=⟨w.heap.size,0,none⟩) hz0).trans k0;have p31:=(HB3.out.cell (p:=⟨w.heap.size,1,none⟩) hz0).trans k1;have p32:=(HB3.out.cell (p:=⟨bt,ot+q,none⟩) hzb).trans k2;have p33:=(HB3.out.cell (p:=⟨bt,ot+(q+1),none⟩) hzb).trans k3
           go_wp2_with fail
           clear hHeld;refine hK.out _ _ ?_ fun hHeld=>?_
           · ((try dsimp only);go_keep)
           clear hK K
           try simp only [qq]
           refine rq 22 fun K hK=>?_;go_simp;refine (c109 x s.wd _ hxs).mono ?_;rintro e w4 ⟨rfl,hb4⟩;have HB4:Hid (Below W2.heap.size W2 w4):=bT_ HB3.out hb4;have p40:=(HB4.out.cell (p:=⟨w.heap.size,0,none⟩) hz0).trans k0;have p41:=(HB4.out.cell (p:=⟨w.heap.size,1,none⟩) hz0).trans k1;have p42:=(HB4.out.cell (p:=⟨bt,ot+q,none⟩) hzb).trans k2;have p43:=(HB4.out.cell (p:=⟨bt,ot+(q+1),none⟩) hzb).trans k3
           go_wp2_with fail
           clear hHeld;refine hK.out _ _ ?_ fun hHeld=>?_
           · ((try dsimp only);go_keep)
           clear hK K
           try simp only [qq]
           refine tq 23 hHeld ?_
           try simp only [qq]
           refine tq 24 hHeld ?_
           try simp only [qq]
           refine tq 25 hHeld ?_
           try simp only [qq]
           refine wpAnyH_done kr_ ?_ _;clear hHeld;have hB4:Below w.heap.size w w4:=hA2.trans (HB4.out.mono om_);go_wp2;go_ret;exact ⟨rb_no HR.out,hB4⟩
         · have hd':Hid (∀ j,j<q+1+1->StepT s.ts s.wd j):=fun j hj=>by
            rcases Nat.lt_or_ge j (q+1) with h | h
            · exact hdone.out j h
            · obtain rfl:j=q+1:=om_
              exact HST'.out.2 ⟨HFL.out.1 rfl,.inr hy⟩
           refine wp_region_held_drew (S:=(fun u=>u.cell? ⟨w.heap.size,0,none⟩=some (.int .i64 s.wd)/\u.cell? ⟨w.heap.size,1,none⟩=some (.slice (some ⟨bt,ot,none⟩) s.ts.length tc)/\u.cell? ⟨bt,ot+q,none⟩=some (.string y)/\u.cell? ⟨bt,ot+(q+1),none⟩=some (.string x))) kr_ ?_ fun hHeld=>?_
           · ((try dsimp only);go_keep)
           refine tq 0 hHeld ?_
           try simp only [qq]
           refine tq 1 hHeld ?_
           try simp only [qq]
           refine tq 2 hHeld ?_
           try simp only [qq]
           refine tq 3 hHeld ?_
           try simp only [qq]
           refine tq 4 hHeld ?_
           try simp only [qq]
           refine tq 5 hHeld ?_
           try simp only [qq]
           refine tq 6 hHeld ?_
           try simp only [qq]
           refine tq 7 hHeld ?_
           try simp only [qq]
           refine tq 8 hHeld ?_
           try simp only [qq]
           refine tq 9 hHeld ?_
           try simp only [qq]
           refine tq 10 hHeld ?_
           try simp only [qq]
           refine tq 11 hHeld ?_
           try simp only [qq]
           refine tq 12 hHeld ?_
           try simp only [qq]
           refine tq 13 hHeld ?_
           try simp only [qq]
           refine tq 15 hHeld ?_
           try simp only [qq]
           refine tq 16 hHeld ?_
           try simp only [qq]
           refine tq 17 hHeld ?_
           try simp only [qq]
           refine tq 18 hHeld ?_
           try simp only [qq]
           refine tq 19 hHeld ?_
           try simp only [qq]
           refine tq 20 hHeld ?_
           try simp only [qq]
           refine tq 21 hHeld ?_
           try simp only [qq]
           refine rq 14 fun K hK=>?_;go_simp;refine (c109 y s.wd _ hys).mono ?_;rintro e w3 ⟨rfl,hb3⟩;have HB3:Hid (Below W2.heap.size W2 w3):=(Below.refl _ _).drew.trans hb3;have p30:=(HB3.out.cell (p:=⟨w.heap.size,0,none⟩) hz0).trans k0;have p31:=(HB3.out.cell (p:=⟨w.heap.size,1,none⟩) hz0).trans k1;have p32:=(HB3.out.cell (p:=⟨bt,ot+q,none⟩) hzb).trans k2;have p33:=(HB3.out.cell (p:=⟨bt,ot+(q+1),none⟩) hzb).trans k3
           go_wp2_with fail
           clear hHeld;refine hK.out _ _ ?_ fun hHeld=>?_
           · ((try dsimp only);go_keep)
           clear hK K
           try simp only [qq]
           refine rq 22 fun K hK=>?_;go_simp;refine (c109 x s.wd _ hxs).mono ?_;rintro e w4 ⟨rfl,hb4⟩;have HB4:Hid (Below W2.heap.size W2 w4):=bT_ HB3.out hb4;have p40:=(HB4.out.cell (p:=⟨w.heap.size,0,none⟩) hz0).trans k0;have p41:=(HB4.out.cell (p:=⟨w.heap.size,1,none⟩) hz0).trans k1;have p42:=(HB4.out.cell (p:=⟨bt,ot+q,none⟩) hzb).trans k2;have p43:=(HB4.out.cell (p:=⟨bt,ot+(q+1),none⟩) hzb).trans k3
           go_wp2_with fail
           clear hHeld;refine hK.out _ _ ?_ fun hHeld=>?_
           · ((try dsimp only);go_keep)
           clear hK K
           try simp only [qq]
           refine tq 23 hHeld ?_
           try simp only [qq]
           refine tq 24 hHeld ?_
           try simp only [qq]
           refine tq 25 hHeld ?_
           try simp only [qq]
           refine wpAnyH_done kr_ ?_ _;clear hHeld;have hx4:Below (w.heap.size+1) A0 w4:=hx2.trans (HB4.out.mono hW2);go_wp2;go_roundw
           case rel=>exact ⟨q+1+1,om_,by go_num,hd',hx4⟩
           case measure=>simp [intOf];omega
    · have HTX:Hid (TextsOk s.ts s.wd):=⟨om_,fun i hi=>hdone.out i om_⟩
      clear hdone
      go_wp2_with fail
      clear a0 a1 a2 hb hzr;go_loopw [6] (fun i wr=>∃ (k:Nat),k<=s.rs.length/\i=.int .i64 k/\Hid (∀ j,j<k->RecOk s.wd (s.rs.getD j r3z))/\Below (w.heap.size+1) A0 wr) (fun i _=>s.rs.length - (intOf i).toNat)
      case atStart=>exact ⟨0,Nat.zero_le _,rfl,fun j h=>absurd h (Nat.not_lt_zero _),hx⟩
      case round=>
       clear hx;obtain ⟨k,hk,rfl,hdone,hx⟩:=hrel;obtain ⟨wq,hwq⟩:∃ wq,wq=wr:=⟨_,rfl⟩;subst hwq;have hb:Below w.heap.size w wq:=hB0.trans (hx.mono om_);have hzr:w.heap.size+1<=wq.heap.size:=by have:=hx.size;omega
       have a0:wq.cell? ⟨w.heap.size,0,none⟩=some (.int .i64 s.wd):=(hx.cell (p:=⟨w.heap.size,0,none⟩) sm_).trans b0;have a2:wq.cell? ⟨w.heap.size,2,none⟩=some (.slice ra s.rs.length rc):=(hx.cell (p:=⟨w.heap.size,2,none⟩) sm_).trans b2;by_cases hlt:k<s.rs.length
       · rcases HRc.out with hss | ⟨ha,hbw,hcell⟩
         · rw [hss] at hlt;exact absurd hlt (Nat.not_lt_zero _)
         subst ha;obtain ⟨ai,ci,e0,e1,e2,e3⟩:=(hcell k hlt).below hbw hb;have hxs:=HS.out.2.2 k;have HXX:Hid (∃ x,x=s.rs.getD k r3z):=⟨_,rfl⟩;obtain ⟨x,hxe⟩:=HXX.out;rw [<- hxe] at e0 e1 e2 e3 hxs;have HX:Hid (x=s.rs.getD k r3z):=hxe;have HGL:Hid (GlsAt wq ai x.gs):=e3;obtain ⟨x1,x2,x3,x4⟩:=hxs;have HX3:Hid (∀ i,(x.gs.getD i g3z).le 1048576):=x3;clear hxe HXX hcell e3 x3;have HNO:Hid (¬ RecOk s.wd x->¬ StOk s):=fun hn h=>hn (HX.out▸h.2.2.2 k hlt);have hAq:Below wq.heap.size wq (wq.alloc (.cells #[.string x.key,.slice ai x.gs.length ci,.string x.out] 96)):=bA_;have hBq:Below w.heap.size w (wq.alloc (.cells #[.string x.key,.slice ai x.gs.length ci,.string x.out] 96)):=hb.alloc hb.size _;have a0':=past (by show w.heap.size<wq.heap.size;omega) a0;by_cases h1:x.key.size<=321
         · by_cases h2:(x.out.size:Int)=s.wd
           · by_cases h3:x.gs.length<=15
             · have HH:Hid (x.key.size<=321/\(x.out.size:Int)=s.wd/\x.gs.length<=15):=⟨h1,h2,h3⟩
               go_wp2_with fail
               go_loopw [8] (fun i wr=>∃ (q:Nat),q<=x.gs.length/\i=.int .i64 q/\Hid (∀ j,j<q->GlOk s.wd (x.gs.getD j g3z))/\Below (wq.heap.size+1) (wq.alloc (.cells #[.string x.key,.slice ai x.gs.length ci,.string x.out] 96)) wr) (fun i _=>x.gs.length - (intOf i).toNat)
               case atStart=>exact ⟨0,Nat.zero_le _,rfl,fun j h=>absurd h (Nat.not_lt_zero _),Below.refl _ _⟩
               case round=>
                obtain ⟨q,hq,rfl,hdg,hbg⟩:=hrel;have hBg:Below w.heap.size w wr:=hBq.trans (hbg.mono om_);have hqg:Below wq.heap.size wq wr:=hAq.trans (hbg.mono om_);have hzg:wq.heap.size+1<=wr.heap.size:=by have:=hbg.size;simpa using this
                have k0:wr.cell? ⟨w.heap.size,0,none⟩=some (.int .i64 s.wd):=(hqg.cell (p:=⟨w.heap.size,0,none⟩) (by show w.heap.size<wq.heap.size;omega)).trans a0;have k1:wr.cell? ⟨wq.heap.size,1,none⟩=some (.slice ai x.gs.length ci):=(hbg.cell (p:=⟨wq.heap.size,1,none⟩) sm_).trans (by simp [go_sem]);by_cases hql:q<x.gs.length
                · obtain ⟨bi,oi,hci⟩:=gls_some (gls_below HGL.out hqg)
                  rcases hci with hss | ⟨hai,hbiw,hgc⟩
                  · rw [hss] at hql;exact absurd hql (Nat.not_lt_zero _)
                  subst hai;have g1:=(hgc q hql).2.1;have g2:=(hgc q hql).2.2;have hyl0:=(HX3.out q).1;have HYY:Hid (∃ y,y=x.gs.getD q g3z):=⟨_,rfl⟩;obtain ⟨y,hye⟩:=HYY.out;rw [<- hye] at g1 g2 hyl0;have HY:Hid (y=x.gs.getD q g3z):=hye;have hyl:y.tl.size<=1048700:=om_;clear hye HYY hgc;cases hn:nameOk y.tl.data.toList
                  · have HR:Hid (¬ StOk s):=HNO.out fun h=>by have:=(h.2 q hql).1;rw [<- HY.out,hn] at this;cases this
                    have h21:=c62 y.tl;rw [hn] at h21
                    go_wp2_with fail
                    refine wp_region_held_drew (S:=(fun u=>u.cell? ⟨w.heap.size,0,none⟩=some (.int .i64 s.wd)/\u.cell? ⟨wq.heap.size,1,none⟩=some (.slice (some ⟨bi,oi,none⟩) x.gs.length ci)/\u.cell? ⟨bi,oi+q*3+1,none⟩=some (.string y.tl)/\u.cell? ⟨bi,oi+q*3+2,none⟩=some (.string y.ar))) kr_ ?_ fun hHeld=>?_
                    · ((try dsimp only);go_keep)
                    refine tq 0 hHeld ?_
                    try simp only [qq]
                    refine tq 1 hHeld ?_
                    try simp only [qq]
                    refine tq 2 hHeld ?_
                    try simp only [qq]
                    refine tq 3 hHeld ?_
                    try simp only [qq]
                    refine tq 4 hHeld ?_
                    try simp only [qq]
                    refine tq 5 hHeld ?_
                    try simp only [qq]
                    refine rq 6 fun K hK=>?_;go_simp;refine (h21 _ hyl).mono ?_;rintro e wz ⟨rfl,hwz⟩;obtain rfl:=hwz
                    go_wp2_with fail
                    clear hHeld;refine hK.out _ _ ?_ fun hHeld=>?_
                    · ((try dsimp only);go_keep)
                    clear hK K
                    try simp only [qq]
                    refine tq 7 hHeld ?_
                    try simp only [qq]
                    refine tq 8 hHeld ?_
                    try simp only [qq]
                    refine uq 9 hHeld ?_
                    try simp only [qq]
                    refine uq 10 hHeld ?_
                    try simp only [qq]
                    refine uq 11 hHeld ?_
                    try simp only [qq]
                    refine uq 12 hHeld ?_
                    try simp only [qq]
                    refine uq 13 hHeld ?_
                    try simp only [qq]
                    refine uq 14 hHeld ?_
                    try simp only [qq]
                    refine uq 15 hHeld ?_
                    try simp only [qq]
                    refine uq 16 hHeld ?_
                    try simp only [qq]
                    refine uq 17 hHeld ?_
                    try simp only [qq]
                    refine uq 18 hHeld ?_
                    try simp only [qq]
                    refine tq 19 hHeld ?_
                    try simp only [qq]
                    refine wpAnyH_done kr_ ?_ _;clear hHeld;go_wp2;go_ret;exact ⟨rb_no HR.out,hBg.drew⟩
                  · have h21:=c62 y.tl
                    rw [hn] at h21;by_cases hw:(y.ar.size:Int)=s.wd
                    · have hd':Hid (∀ j,j<q+1->GlOk s.wd (x.gs.getD j g3z)):=fun j hj=>by
                       rcases Nat.lt_or_ge j q with h | h
                       · exact hdg.out j h
                       · obtain rfl:j=q:=om_
                         rw [<- HY.out];exact ⟨hn,hw⟩
                      have hw':((y.ar.size:Int) !=s.wd)=false:=by simpa using hw
                      clear hn
                      go_wp2_with fail
                      refine wp_region_held_drew (S:=(fun u=>u.cell? ⟨w.heap.size,0,none⟩=some (.int .i64 s.wd)/\u.cell? ⟨wq.heap.size,1,none⟩=some (.slice (some ⟨bi,oi,none⟩) x.gs.length ci)/\u.cell? ⟨bi,oi+q*3+1,none⟩=some (.string y.tl)/\u.cell? ⟨bi,oi+q*3+2,none⟩=some (.string y.ar))) kr_ ?_ fun hHeld=>?_
                      · ((try dsimp only);go_keep)
                      refine tq 0 hHeld ?_
                      try simp only [qq]
                      refine tq 1 hHeld ?_
                      try simp only [qq]
                      refine tq 2 hHeld ?_
                      try simp only [qq]
                      refine tq 3 hHeld ?_
                      try simp only [qq]
                      refine tq 4 hHeld ?_
                      try simp only [qq]
                      refine tq 5 hHeld ?_
                      try simp only [qq]
                      refine rq 6 fun K hK=>?_;go_simp;refine (h21 _ hyl).mono ?_;rintro e wz ⟨rfl,hwz⟩;obtain rfl:=hwz
                      go_wp2_with fail
                      clear hHeld;refine hK.out _ _ ?_ fun hHeld=>?_
                      · ((try dsimp only);go_keep)
                      clear hK K
                      try simp only [qq]
                      refine tq 7 hHeld ?_
                      try simp only [qq]
                      refine tq 8 hHeld ?_
                      try simp only [qq]
                      refine tq 9 hHeld ?_
                      try simp only [qq]
                      refine tq 10 hHeld ?_
                      try simp only [qq]
                      refine tq 11 hHeld ?_
                      try simp only [qq]
                      refine tq 12 hHeld ?_
                      try simp only [qq]
                      refine tq 13 hHeld ?_
                      try simp only [qq]
                      refine tq 14 hHeld ?_
                      try simp only [qq]
                      refine tq 15 hHeld ?_
                      try simp only [qq]
                      refine tq 16 hHeld ?_
                      try simp only [qq]
                      refine tq 17 hHeld ?_
                      try simp only [qq]
                      refine tq 18 hHeld ?_
                      try simp only [qq]
                      refine tq 19 hHeld ?_
                      try simp only [qq]
                      refine wpAnyH_done kr_ ?_ _;clear hHeld;go_wp2;go_roundw
                      case rel=>exact ⟨q+1,om_,by go_num,hd',hbg.drew⟩
                      case measure=>simp [intOf];omega
                    · have HR:Hid (¬ StOk s):=HNO.out fun h=>hw (by have:=(h.2 q hql).2;rw [<- HY.out] at this;exact this)
                      have hw':((y.ar.size:Int) !=s.wd)=true:=by simpa using hw
                      have hw2:((y.ar.size:Int)==s.wd)=false:=by simpa using hw
                      clear hn
                      go_wp2_with fail
                      refine wp_region_held_drew (S:=(fun u=>u.cell? ⟨w.heap.size,0,none⟩=some (.int .i64 s.wd)/\u.cell? ⟨wq.heap.size,1,none⟩=some (.slice (some ⟨bi,oi,none⟩) x.gs.length ci)/\u.cell? ⟨bi,oi+q*3+1,none⟩=some (.string y.tl)/\u.cell? ⟨bi,oi+q*3+2,none⟩=some (.string y.ar))) kr_ ?_ fun hHeld=>?_
                      · ((try dsimp only);go_keep)
                      refine tq 0 hHeld ?_
                      try simp only [qq]
                      refine tq 1 hHeld ?_
                      try simp only [qq]
                      refine tq 2 hHeld ?_
                      try simp only [qq]
                      refine tq 3 hHeld ?_
                      try simp only [qq]
                      refine tq 4 hHeld ?_
                      try simp only [qq]
                      refine tq 5 hHeld ?_
                      try simp only [qq]
                      refine rq 6 fun K hK=>?_;go_simp;refine (h21 _ hyl).mono ?_;rintro e wz ⟨rfl,hwz⟩;obtain rfl:=hwz
                      go_wp2_with fail
                      clear hHeld;refine hK.out _ _ ?_ fun hHeld=>?_
                      · ((try dsimp only);go_keep)
                      clear hK K
                      try simp only [qq]
                      refine tq 7 hHeld ?_
                      try simp only [qq]
                      refine tq 8 hHeld ?_
                      try simp only [qq]
                      refine tq 9 hHeld ?_
                      try simp only [qq]
                      refine tq 10 hHeld ?_
                      try simp only [qq]
                      refine tq 11 hHeld ?_
                      try simp only [qq]
                      refine tq 12 hHeld ?_
                      try simp only [qq]
                      refine tq 13 hHeld ?_
                      try simp only [qq]
                      refine tq 14 hHeld ?_
                      try simp only [qq]
                      refine tq 15 hHeld ?_
                      try simp only [qq]
                      refine tq 16 hHeld ?_
                      try simp only [qq]
                      refine tq 17 hHeld ?_
                      try simp only [qq]
                      refine tq 18 hHeld ?_
                      try simp only [qq]
                      refine tq 19 hHeld ?_
                      try simp only [qq]
                      refine wpAnyH_done kr_ ?_ _;clear hHeld;go_wp2;go_ret;exact ⟨rb_no HR.out,hBg.drew⟩
                · have hd':Hid (∀ j,j<k+1->RecOk s.wd (s.rs.getD j r3z)):=fun j hj=>by
                   rcases Nat.lt_or_ge j k with h | h
                   · exact hdone.out j h
                   · obtain rfl:j=k:=om_
                     rw [<- HX.out];exact ⟨HH.out,fun i hi=>hdg.out i om_⟩
                  have hxg:Below (w.heap.size+1) A0 wr:=hx.trans (hqg.mono hzr);go_wp2;go_roundw
                  case rel=>exact ⟨k+1,om_,by go_num,hd',hxg⟩
                  case measure=>simp [intOf];omega
             · have HR:Hid (¬ StOk s):=HNO.out fun h=>h3 h.1.2.2
               have h3':15<x.gs.length:=om_;go_wp2;go_ret;exact ⟨rb_no HR.out,hBq⟩
           · have HR:Hid (¬ StOk s):=HNO.out fun h=>h2 h.1.2.1
             have h2':((x.out.size:Int) !=s.wd)=true:=by simpa using h2
             have h2'':((x.out.size:Int)==s.wd)=false:=by simpa using h2
             go_wp2;go_ret;exact ⟨rb_no HR.out,hBq⟩
         · have HR:Hid (¬ StOk s):=HNO.out fun h=>h1 h.1.1
           go_wp2;go_ret;exact ⟨rb_no HR.out,hBq⟩
       · have HR:Hid (StOk s):=⟨HW.out,HTX.out,om_,fun i hi=>hdone.out i om_⟩
         go_wp2;go_ret;exact ⟨rb_yes HR.out,hb⟩
 · have hd:decide (1<=s.wd/\s.wd<=8)=false:=by simpa using hW
   have HR:Hid (¬ StOk s):=fun h=>hW h.1;go_enter func69,ntmps69
   go_wp2_with fail
   refine (c13 _ _).mono ?_;rintro e w' ⟨rfl,rfl⟩;rw [hd];go_wp2;go_ret;exact ⟨rb_no HR.out,HA0.out▸hB0⟩
end Go.Proofs.YtlckdgjfniglfaaGreatDoor
