import Derived.Test.YtdpoaadafcaffaaGreatDoorWU
import Derived.Test.YtdpoaadafcaffaaGreatDoorWN
set_option linter.unusedVariables false
set_option maxHeartbeats 8000000
set_option maxRecDepth 100000
namespace Go.Proofs.YtdpoaadafcaffaaGreatDoor
open Proofs.Tryz
open Go.RowKit
open G (Q6 Ke)
open G.T (F2 L6 Y3 U3)
structure Ev (w:World) (B:Nat) (a:Option Addr) (cap:Nat) (fs:List F2):Prop where
 c:w.cell? ⟨B,0,none⟩=some (.slice a fs.length cap)
 lt:B<w.heap.size
 at_:U3 w a fs
 st:Std w
theorem Ev.below {w w':World} {B:Nat} {a:Option Addr} {cap:Nat} {fs:List F2} (h:Ev w B a cap fs) (hb:Below w.heap.size w w'):Ev w' B a cap fs:=⟨(hb.cell (p:=⟨B,0,none⟩) h.lt).trans h.c,Nat.lt_of_lt_of_le h.lt hb.size,G.T.X0 h.at_ hb,h.st.below hb⟩
theorem shr {X Y:Type} {A G:X->Y->Prop} {q:Prop} (f:(∀ x y,A x y->G x y)->q) (t:∀ x y,A x y->G x y):q:=f t
theorem c3 (a:Option Addr) (L cap:Nat) (w:World) (hcap:L<=cap) (h:BytesAt w a L) (hst:Std w):
 Calls prog 3 #[.slice a L cap] w fun e w'=>e=.returned (.bool true)/\Below w.heap.size w w':=by
 have IM:=Q0 h;have HST:=Q0 hst;clear h hst;by_cases hL:L<=1048576;rotate_left
 · have hL':(1048576:Int)<(L:Int):=O0
   go_enter func3,ntmps3;go_wp2;go_ret;exact ⟨rfl,Below.refl _ _⟩
 have hL':¬ (1048576:Int)<(L:Int):=O0;go_enter func3,ntmps3
 go_wp2_with fail
 refine (c4 a L cap w hL hcap IM.out).mono ?_;rintro e w1 ⟨⟨v,nm,rfl,⟨ta,tc,fs,rfl,hfa,hfl,hfx⟩,hnm⟩,hb1⟩;have uV:Hid (∀ i,(fs.getD i L6).le 1048576):=fun i=>⟨Nat.le_trans (ZA hfx i).1 O0,Nat.le_trans (ZA hfx i).2 O0⟩;have dQ:=Q0 hfa;have HB1:=Q0 hb1;clear hfa hfx hb1
 go_upto_region 4 with fail
 obtain ⟨w2,hw2⟩:∃ u:World,u=w1.alloc (.cells #[.slice ta fs.length tc] 25):=⟨_,rfl⟩;have hb2:Below w1.heap.size w1 w2:=by rw [hw2];exact bA
 have hC:Cl w2 w1.heap.size 25 [.slice ta fs.length tc]:=by rw [hw2];exact F3 w1 _ 25
 have HE:Hid (Ev w2 w1.heap.size ta tc fs):=⟨hC.cell 0,hC.lt,G.T.X0 dQ.out hb2,(HST.out.below HB1.out).below hb2⟩;have HW:=Q0 (bT HB1.out hb2);rw [<- hw2];clear hw2 hC hb2 dQ HB1;have q2:=HE.out.c;generalize w1.heap.size=B at*
 go_wp2_with fail
 refine (dL ta tc fs nm w2 O0 uV.out HE.out.at_ O0 HE.out.st).mono ?_;rintro e w3 ⟨⟨v,xs,rfl,hdr,hds⟩,hb3⟩;obtain ⟨da,dc,rfl,hda⟩:=JE hdr;have BZ:=Q0 hds;have HDK:=Q0 (fG hds);have hxl:xs.length<=481:=by simpa using HDK.out.1
 have RX:=Q0 (HE.out.below hb3);have HW3:=Q0 (bT HW.out hb3);have oP:=Q0 hda;clear hdr hds hb3 hda q2 HE HW
 go_upto_region 5 with fail
 obtain ⟨x0,hx0⟩:∃ x:World,x=w3.drew:=⟨_,rfl⟩;have hb0:Below w3.heap.size w3 x0:=by rw [hx0];exact (Below.refl _ _).drew
 have mO:=Q0 (RX.out.below hb0);have HW0:=Q0 (bT HW3.out hb0);have HD0:=Q0 (oP.out.below hb0);refine wp_region_held_drew (S:=fun u=>u.cell? ⟨B,0,none⟩=some (.slice ta fs.length tc)) I1 RX.out.c fun hH=>?_;rw [<- hx0] at hH ⊢;clear hx0 hb0 RX HW3 oP;refine tq 0 hH ?_;simp only [qq];refine tq 1 hH ?_;simp only [qq];refine tq 3 hH ?_;simp only [qq];refine tq 4 hH ?_;simp only [qq];refine rq 2 fun K hK=>?_;go_simp;refine (c6 ta tc fs nm x0 O0 uV.out mO.out.at_ O0 mO.out.st).mono ?_;rintro e x1 ⟨⟨d1,hd1,rfl⟩,hb1⟩;have uS:=Q0 (mO.out.below hb1);have HW1:=Q0 (bT HW0.out hb1);have HD1:=Q0 (HD0.out.below hb1);unfold Av;go_simp;clear hH mO HW0 HD0 hb1;refine hK.out _ _ uS.out.c fun hH=>?_;clear hK K
 try simp only [qq]
 refine rq 5 fun K hK=>?_;go_simp;refine (c7 ta tc fs nm x1 O0 uV.out uS.out.at_ O0).mono ?_;rintro e x2 ⟨⟨d2,hd2,rfl⟩,hb2⟩;have HE2:=Q0 (uS.out.below hb2);have HW2:=Q0 (bT HW1.out hb2);have HD2:=Q0 (HD1.out.below hb2);unfold Av;rw [<- OG hd1 hd2];go_simp;clear hH uS HW1 HD1 hb2 hd1 hd2;refine hK.out _ _ HE2.out.c fun hH=>?_;clear hK K
 try simp only [qq]
 refine tq (v:=.bool false) 6 hH ?_ (hv:=by intro u hu;simp [go_sem]);simp only [qq];refine tq 7 hH ?_;simp only [qq];refine tq 8 hH ?_;simp only [qq];refine tq 9 hH ?_;simp only [qq];refine tq 10 hH ?_;simp only [qq];refine rq 11 fun K hK=>?_;go_simp;refine (GK ta tc fs nm x2 O0 uV.out HE2.out.at_ O0).mono ?_;rintro e x3 ⟨⟨v,ys,rfl,hdr,hds⟩,hb3⟩;obtain ⟨sa,sc,rfl,hsa⟩:=JE hdr;have RX:=Q0 (HE2.out.below hb3);have HW3:=Q0 (bT HW2.out hb3);have HD3:=Q0 (HD2.out.below hb3);have HC:=Q0 (c8 da dc xs sa sc ys x3 (fE BZ.out hds) hxl (fun x hx=>(HDK.out.2 _ (List.mem_map.2 ⟨x,hx,rfl⟩)).2.2.1) HD3.out hsa);clear hdr hds hsa hb3;go_simp;clear hH HE2 HW2 HD2;refine hK.out _ _ RX.out.c fun hH=>?_;clear hK K
 try simp only [qq]
 refine rq 12 fun K hK=>?_;go_simp;refine HC.out.mono ?_;rintro e x4 ⟨rfl,hb4⟩;have HE:=Q0 (RX.out.below hb4);have HW:=Q0 (bT HW3.out hb4);have HD:=Q0 (HD3.out.below hb4);go_simp;clear hH RX HW3 HD3 HC hb4;refine hK.out _ _ HE.out.c fun hH=>?_;clear hK K
 try simp only [qq]
 refine tq 13 hH ?_;simp only [qq];refine tq 14 hH ?_;simp only [qq];refine wpAnyH_done I1 ?_ _;clear hH
 go_wp2_with fail
 go_loopw [6] (fun r wr=>∃ k:Nat,r=.int .i64 k/\k<=xs.length/\Hid (Below x4.heap.size x4 wr)) (fun r _=>xs.length - (intOf r).toNat)
 case atStart=>exact ⟨0,rfl,Nat.zero_le _,Below.refl _ _⟩
 obtain ⟨k,rfl,hk,HB⟩:=hrel;by_cases hlt:k<xs.length;rotate_left
 · obtain rfl:k=xs.length:=O0
   go_wp2;go_ret;exact ⟨rfl,bT HW.out HB.out⟩
 obtain ⟨g,la,lc,ha,hg,hm,hx,hlk,hc⟩:=HD.out.at hlt;subst ha;rw [hx] at hc;obtain ⟨ht,hn,bQ,ms,hp,hdd⟩:=HDK.out.2 _ (List.mem_map.2 ⟨_,hm,rfl⟩);clear hx hm;generalize (xs.getD k Ut).d=d at*;have HWN:Hid (∀ d',qo fs d.nm d'->d'=d):=fun d' h=>xE ht hp hn hdd h;have hE:=qc ht hp;have EP:=Q0 (iH hdd);have hcv:∀ n,Y1 n.data.toList=true->∀ Q:Dd->Prop,(∀ d',Fa (o7 fs ms) n d'->Q d')->∀ d',qo fs n d'->Q d':=fun n hn Q h d' hd=>by
  rcases hd with ⟨_,_,ms',k1,k2⟩ | ⟨h | h,_⟩
  · obtain rfl:=G.Bc hp k1
    exact h _ k2
  · exact absurd ht h
  rw [hn] at h;cases h
 have HMD:Hid (d.md=true->Z9 d.m=true/\V8 (o7 fs ms) d.m d.ls/\((d.r.code=6/\(tn d.m d.ls).over=false/\(tn d.m d.ls).has=false/\(tn d.m d.ls).name.size<=20/\∀ d',qo fs (tn d.m d.ls).name d'->d'.r.code=6)\/(d.r.code≠6/\(tn d.m d.ls).over=true/\jg (tn d.m d.ls)=d.r))):=fun hm=>by
  obtain ⟨h1,h2,h3⟩:=jE hE hdd hm;exact ⟨h1,h2,h3.imp (fun ⟨a1,a2,a3,a4,a5⟩=>⟨a1,a2,a3,z_ a4,hcv _ a4 (fun d'=>d'.r.code=6) a5⟩) id⟩
 have gZ:Hid (∀ j,j<d.ls.length->(d.ls.getD j M.A_).has=false->(d.ls.getD j M.A_).nm.size<=20/\∀ d',qo fs (d.ls.getD j M.A_).nm d'->d'.r=⟨(d.ls.getD j M.A_).cd,(d.ls.getD j M.A_).tx⟩):=fun j hj hh=>by
  obtain ⟨h1,h2⟩:=WC hE hdd hj hh;exact ⟨z_ h1,hcv _ h1 _ h2⟩
 have wM:=Q0 hE;have MS:=Q0 hp;have hns:=z_ hn;clear ht hn hp hdd hE hcv;obtain ⟨nn,md,⟨mn,mt,ma⟩,ls,⟨rc,rt⟩,wt⟩:=d;dsimp only at hlk hns bQ;have HX:Hid (∀ u,Below x4.heap.size x4 u->u.cell? ⟨B,0,none⟩=some (.slice ta fs.length tc)/\u.cell? ⟨g,k*8,none⟩=some (.string nn)/\u.cell? ⟨g,k*8+1,none⟩=some (.bool md)/\u.cell? ⟨g,k*8+2,none⟩=some (.string mn)/\u.cell? ⟨g,k*8+3,none⟩=some (.string mt)/\u.cell? ⟨g,k*8+4,none⟩=some (.string ma)/\u.cell? ⟨g,k*8+5,none⟩=some (.slice la ls.length lc)/\u.cell? ⟨g,k*8+6,none⟩=some (.int .i64 rc)/\u.cell? ⟨g,k*8+7,none⟩=some (.string rt)):=fun u hb=>by
  have f:=fun j v e=>(hb.cell (p:=⟨g,k*8+j,none⟩) hg).trans (hc j v e);exact ⟨(HE.out.below hb).c,f 0 _ rfl,f 1 _ rfl,f 2 _ rfl,f 3 _ rfl,f 4 _ rfl,f 5 _ rfl,f 6 _ rfl,f 7 _ rfl⟩
 have yN:=Q0 hlk;clear hlk hc
 go_upto_region 10 with fail
 obtain ⟨y0,hy0⟩:∃ x:World,x=wr.drew:=⟨_,rfl⟩;have hB0:Below x4.heap.size x4 y0:=by rw [hy0];exact HB.out.drew
 refine wp_region_held_drew (S:=fun u=>u.cell? ⟨B,0,none⟩=some (.slice ta fs.length tc)/\u.cell? ⟨g,k*8,none⟩=some (.string nn)/\u.cell? ⟨g,k*8+1,none⟩=some (.bool md)/\u.cell? ⟨g,k*8+2,none⟩=some (.string mn)/\u.cell? ⟨g,k*8+3,none⟩=some (.string mt)/\u.cell? ⟨g,k*8+4,none⟩=some (.string ma)/\u.cell? ⟨g,k*8+5,none⟩=some (.slice la ls.length lc)/\u.cell? ⟨g,k*8+6,none⟩=some (.int .i64 rc)/\u.cell? ⟨g,k*8+7,none⟩=some (.string rt)) I1 (HX.out _ HB.out.drew) fun hH=>?_;rw [<- hy0] at hH ⊢;clear hy0 HB;refine tq 0 hH ?_;simp only [qq];refine tq 1 hH ?_;simp only [qq];refine tq 2 hH ?_;simp only [qq];refine tq 3 hH ?_;simp only [qq];refine tq 4 hH ?_;simp only [qq];refine tq 5 hH ?_;simp only [qq];refine tq 6 hH ?_;simp only [qq];refine tq 7 hH ?_;simp only [qq];refine tq 8 hH ?_;simp only [qq];refine tq 9 hH ?_;simp only [qq];refine tq 10 hH ?_;simp only [qq];refine rq 11 fun K hK=>?_;go_simp;have mO:=Q0 (HE.out.below hB0);refine (c6 ta tc fs nn y0 O0 uV.out mO.out.at_ O0 mO.out.st).mono ?_;rintro e y1 ⟨⟨d1,hd1,rfl⟩,hb1⟩;obtain rfl:=HWN.out _ hd1;have hB1:=bT hB0 hb1;clear hd1 hb1 mO;unfold Av;go_simp;clear hH;refine hK.out _ _ (HX.out _ hB1) fun hH=>?_;clear hK K hB0
 try simp only [qq]
 refine tq (v:=.bool false) 12 hH ?_ (hv:=by intro u hu;simp [go_sem]);simp only [qq];refine tq 13 hH ?_;simp only [qq];refine tq 14 hH ?_;simp only [qq];refine tq 15 hH ?_;simp only [qq];refine tq 16 hH ?_;simp only [qq];refine tq 17 hH ?_;simp only [qq];refine tq 18 hH ?_;simp only [qq];refine tq 19 hH ?_;simp only [qq];refine tq 20 hH ?_;simp only [qq];refine tq 21 hH ?_;simp only [qq];refine tq 22 hH ?_;simp only [qq];refine tq 23 hH ?_;simp only [qq];refine tq 24 hH ?_;simp only [qq];refine rq 25 fun K hK=>?_;go_simp;have mO:=Q0 (HE.out.below hB1);refine (c11 ta tc fs nn y1 O0 uV.out mO.out.at_ O0 mO.out.st).mono ?_;rintro e y2 ⟨⟨d1,v,hd1,rfl,hrow⟩,hb1⟩;obtain rfl:=HWN.out _ hd1;obtain ⟨lb,ld,rfl,hlk⟩:=Zb hrow;have hB2:=bT hB1 hb1;have HC:=Q0 (c10 la lc lb ld ls y2 bQ (M.I_ yN.out hB2) hlk);clear hd1 hb1 mO hrow hlk;go_simp;clear hH;refine hK.out _ _ (HX.out _ hB2) fun hH=>?_;clear hK K hB1
 try simp only [qq]
 refine rq 26 fun K hK=>?_;go_simp;refine HC.out.mono ?_;rintro e y3 ⟨rfl,hb3⟩;have HB:=Q0 (bT hB2 hb3);go_simp;clear hH HC hb3 hB2;refine hK.out _ _ (HX.out _ HB.out) fun hH=>?_;clear hK K
 try simp only [qq]
 refine tq 27 hH ?_;simp only [qq];refine tq 28 hH ?_;simp only [qq];refine wpAnyH_done I1 ?_ _;clear hH;obtain ⟨q0,q1,q2,q3,q4,q5,q6,q7,q8⟩:=HX.out _ HB.out;cases md
 · obtain ⟨h1,h2⟩:=EP.out rfl
   obtain rfl:ls=[]:=h1;have h2:rc=0\/rc=4:=h2;rcases h2 with rfl | rfl
   all_goals
    go_wp2;go_roundw
    case rel=>exact ⟨k+1,by go_num,O0,HB.out⟩
    case measure=>simp [intOf];omega
 obtain ⟨hom,hhi,hca⟩:=HMD.out rfl;have HOM:=Q0 hom;have HHI:=Q0 hhi;obtain ⟨⟨o,c,tx,hh,n,st⟩,HQ⟩:∃ t,Hid (tn ⟨mn,mt,ma⟩ ls=t):=⟨_,rfl⟩;dsimp only at hca;rw [HQ.out] at hca;have HCA:=Q0 hca;clear hom hhi hca HMD EP
 go_upto_region 15 with fail
 clear q0 q1 q2 q3 q4 q5 q6 q7 q8;apply shr (A:=fun (U:World) (P:Nat)=>Hid (Below x4.heap.size x4 U)/\Hid (Y7 U P ⟨o,c,tx,hh,n,st⟩))
 case f=>
  intro TAIL;obtain ⟨z0,hz0⟩:∃ x:World,x=y3.drew:=⟨_,rfl⟩;have hB0:Below x4.heap.size x4 z0:=by rw [hz0];exact HB.out.drew
  refine wp_region_held_drew (S:=fun u=>u.cell? ⟨B,0,none⟩=some (.slice ta fs.length tc)/\u.cell? ⟨g,k*8,none⟩=some (.string nn)/\u.cell? ⟨g,k*8+1,none⟩=some (.bool true)/\u.cell? ⟨g,k*8+2,none⟩=some (.string mn)/\u.cell? ⟨g,k*8+3,none⟩=some (.string mt)/\u.cell? ⟨g,k*8+4,none⟩=some (.string ma)/\u.cell? ⟨g,k*8+5,none⟩=some (.slice la ls.length lc)/\u.cell? ⟨g,k*8+6,none⟩=some (.int .i64 rc)/\u.cell? ⟨g,k*8+7,none⟩=some (.string rt)) I1 (HX.out _ HB.out.drew) fun hH=>?_;rw [<- hz0] at hH ⊢;clear hz0;refine tq 0 hH ?_;simp only [qq];refine tq 1 hH ?_;simp only [qq];refine tq 2 hH ?_;simp only [qq];refine tq 3 hH ?_;simp only [qq];refine tq 4 hH ?_;simp only [qq];refine tq 5 hH ?_;simp only [qq];refine tq 6 hH ?_;simp only [qq];refine tq 7 hH ?_;simp only [qq];refine tq 8 hH ?_;simp only [qq];refine tq 9 hH ?_;simp only [qq];refine wpAnyH_ready (show Region.ready _ _ _=[10,11] by kernel_rfl) U0 (AllReadyH.cons rfl (fun K hK=>?_) (AllReadyH.cons rfl (fun K hK=>?_) AllReadyH.nil))
  · go_simp
    refine (c12 wM.out ⟨mn,mt,ma⟩ la lc ls z0 HOM.out HHI.out (M.I_ yN.out hB0) (HE.out.below hB0).st.sh (HE.out.below hB0).st.mx (HE.out.below hB0).st.ten).mono ?_;rintro e z1 ⟨rfl,hb1⟩;rw [HQ.out];have hB1:=bT hB0 hb1;clear hb1 hB0;unfold TN.v;go_simp;clear hH;refine hK.out _ _ (HX.out _ hB1) fun hH=>?_;clear hK K
    try simp only [qq]
    refine rq 11 fun K hK=>?_;go_simp;have hB2:=hB1.alloc hB1.size (.cells #[.bool false,.int .i64 0,.string ⟨#[]⟩,.bool false,.string ⟨#[]⟩,.int .i64 0] 42);clear hH;refine hK.out _ _ (HX.out _ hB2) fun hH=>?_;clear hK K
    try simp only [qq]
    refine rq 12 fun K hK=>?_;go_simp;have hB3:=hB1.alloc hB1.size (.cells #[.bool o,.int .i64 c,.string tx,.bool hh,.string n,.int .i64 st] 42);have JO:Hid (Y7 (z1.alloc (.cells #[.bool o,.int .i64 c,.string tx,.bool hh,.string n,.int .i64 st] 42)) z1.heap.size ⟨o,c,tx,hh,n,st⟩):=M5 rfl _;clear hH;refine hK.out _ _ (HX.out _ hB3) fun hH=>?_;clear hK K hB1 hB2;generalize z1.alloc (.cells #[.bool o,.int .i64 c,.string tx,.bool hh,.string n,.int .i64 st] 42)=U at*;generalize z1.heap.size=P at*
    try simp only [qq]
    refine wpAnyH_done I1 ?_ _;exact TAIL U P ⟨hB3,JO⟩
  go_simp;have hB1:=hB0.alloc hB0.size (.cells #[.bool false,.int .i64 0,.string ⟨#[]⟩,.bool false,.string ⟨#[]⟩,.int .i64 0] 42);have HT0:Hid (Y7 (z0.alloc (.cells #[.bool false,.int .i64 0,.string ⟨#[]⟩,.bool false,.string ⟨#[]⟩,.int .i64 0] 42)) z0.heap.size ⟨false,0,⟨#[]⟩,false,⟨#[]⟩,0⟩):=M5 rfl _;have hP:=hB0.size;clear hH;refine hK.out _ _ (HX.out _ hB1) fun hH=>?_;clear hK K;have hsz:z0.heap.size<(z0.alloc (.cells #[.bool false,.int .i64 0,.string ⟨#[]⟩,.bool false,.string ⟨#[]⟩,.int .i64 0] 42)).heap.size:=U0;generalize z0.alloc (.cells #[.bool false,.int .i64 0,.string ⟨#[]⟩,.bool false,.string ⟨#[]⟩,.int .i64 0] 42)=z1 at*;generalize z0.heap.size=P at*
  try simp only [qq]
  refine rq 10 fun K hK=>?_;go_simp;refine (c12 wM.out ⟨mn,mt,ma⟩ la lc ls z1 HOM.out HHI.out (M.I_ yN.out hB1) (HE.out.below hB1).st.sh (HE.out.below hB1).st.mx (HE.out.below hB1).st.ten).mono ?_;rintro e z2 ⟨rfl,hb2⟩;rw [HQ.out];have hB2:=bT hB1 hb2;have HT1:=Q0 (HT0.out.below hb2 hsz);clear hb2 hB1 HT0 hsz;unfold TN.v;go_simp;clear hH;refine hK.out _ _ (HX.out _ hB2) fun hH=>?_;clear hK K
  try simp only [qq]
  refine rq 12 fun K hK=>?_;obtain ⟨t0,t1,t2,t3,t4,t5,tf⟩:=Y7.cells HT1.out;go_simp;have JO:=Q0 (HT1.out.set ⟨o,c,tx,hh,n,st⟩);have hB3:Below x4.heap.size x4 ((((((z2.setCell ⟨P,0,none⟩ (.bool o)).setCell ⟨P,1,none⟩ (.int .i64 c)).setCell ⟨P,2,none⟩ (.string tx)).setCell ⟨P,3,none⟩ (.bool hh)).setCell ⟨P,4,none⟩ (.string n)).setCell ⟨P,5,none⟩ (.int .i64 st)):=(((((hB2.setCell hP _).setCell hP _).setCell hP _).setCell hP _).setCell hP _).setCell hP _;clear hH;refine hK.out _ _ (HX.out _ hB3) fun hH=>?_
  try simp only [qq]
  refine wpAnyH_done I1 ?_ _;exact TAIL _ _ ⟨hB3,JO⟩
 clear HB;rintro U P ⟨HB,JO⟩;obtain ⟨q0,q1,q2,q3,q4,q5,q6,q7,q8⟩:=HX.out _ HB.out;obtain ⟨t0,t1,t2,t3,t4,t5,tf⟩:=Y7.cells JO.out;have hmark:True:=trivial;rcases HCA.out with ⟨nU,ho,hh0,hnl,hcc⟩ | ⟨nU,ho,hre⟩
 case' inl=>
  have fV:=Q0 hcc;clear hcc;have h6:rc=6:=nU;subst ho hh0;have hd:((rc:Int)==6)=true:=by simp [h6]
  go_wp2_with fail
  have mO:=Q0 (HE.out.below HB.out);refine (c6 ta tc fs n U O0 uV.out mO.out.at_ O0 mO.out.st).mono ?_;rintro e U2 ⟨⟨d2,hd2,rfl⟩,hb2⟩;have h62:=fV.out _ hd2;have HB2:=Q0 (bT HB.out hb2);clear hd2 hb2 mO q0 q1 q2 q3 q4 q5 q6 q7 q8 t0 t1 t2 t3 t4 t5 tf HB;unfold Av;rw [h62];have hfd:(Instr.field 31 (.agg #[.int .i64 6,.string d2.r.tx]) 0).run prog U2=.ok (.int .i64 6) U2:=I1
  go_wp2_with fail
  clear hfd h62 hd nU h6 fV hnl
 case' inr=>
  have h6:rc≠6:=nU;obtain ⟨hc1,hc2⟩:c=rc/\tx=rt:=by injection hre with h1 h2;exact ⟨h1,h2⟩
  subst ho hc1 hc2;have hd:((c:Int)==6)=false:=by simpa using h6
  go_upto_region 19 with fail
  obtain ⟨U2,hU2⟩:∃ x:World,x=U.drew:=⟨_,rfl⟩;have HB2:Hid (Below x4.heap.size x4 U2):=by show Below _ _ _;rw [hU2];exact HB.out.drew
  refine wp_region_held_drew (S:=fun u=>u.cell? ⟨P,0,none⟩=some (.bool true)/\u.cell? ⟨P,1,none⟩=some (.int .i64 c)/\u.cell? ⟨P,2,none⟩=some (.string tx)/\u.cell? ⟨g,k*8+6,none⟩=some (.int .i64 c)/\u.cell? ⟨g,k*8+7,none⟩=some (.string tx)) I1 ⟨t0,t1,t2,q7,q8⟩ fun hH=>?_;rw [<- hU2] at hH ⊢;clear hU2 q0 q1 q2 q3 q4 q5 q6 q7 q8 t0 t1 t2 t3 t4 t5 tf HB;refine tq 0 hH ?_;simp only [qq];refine tq 1 hH ?_;simp only [qq];refine tq 2 hH ?_;simp only [qq];refine tq 3 hH ?_;simp only [qq];refine tq 4 hH ?_;simp only [qq];refine tq 5 hH ?_;simp only [qq];refine tq 6 hH ?_;simp only [qq];refine tq 7 hH ?_;simp only [qq];refine tq 8 hH ?_;simp only [qq];refine tq 9 hH ?_;simp only [qq];refine tq 10 hH ?_;simp only [qq];refine tq (v:=.bool false) 11 hH ?_ (hv:=by intro u hu;simp [go_sem]);simp only [qq];refine tq 12 hH ?_;simp only [qq];refine wpAnyH_done I1 ?_ _;clear hH
  go_wp2_with fail
  clear hd nU h6 hre
 all_goals
  go_loopw [8] (fun r wq=>∃ j:Nat,r=.int .i64 j/\j<=ls.length/\Hid (Below x4.heap.size x4 wq)) (fun r _=>ls.length - (intOf r).toNat)
  case atStart=>exact ⟨0,rfl,Nat.zero_le _,HB2.out⟩
  obtain ⟨j,rfl,hj,HB3⟩:=hrel;by_cases hjl:j<ls.length;rotate_left
  · obtain ⟨q0,q1,q2,q3,q4,q5,q6,q7,q8⟩:=HX.out _ HB3.out
    obtain rfl:j=ls.length:=O0;go_wp2;go_roundw
    case rel=>exact ⟨k+1,by go_num,O0,HB3.out⟩
    case measure=>simp [intOf];omega
  have q6:=(HX.out _ HB3.out).2.2.2.2.2.2.1;have HQX:Hid (∀ u,Below x4.heap.size x4 u->∃ b off,la=some ⟨b,off,none⟩/\b<x4.heap.size/\u.cell? ⟨b,off+j*4,none⟩=some (.bool (ls.getD j M.A_).has)/\u.cell? ⟨b,off+j*4+1,none⟩=some (.string (ls.getD j M.A_).nm)/\u.cell? ⟨b,off+j*4+2,none⟩=some (.int .i64 (ls.getD j M.A_).cd)/\u.cell? ⟨b,off+j*4+3,none⟩=some (.string (ls.getD j M.A_).tx)):=fun u hb=>ze yN.out hb hjl;obtain ⟨lb,lo,ha,_⟩:=HQX.out _ HB3.out;subst ha;have hlo:=gZ.out j hjl
  try dsimp only at hlo
  generalize ls.getD j M.A_=x at*;obtain ⟨xh,xn,xc,xt⟩:=x;have HY:Hid (∀ u,Below x4.heap.size x4 u->(u.cell? ⟨lb,lo+j*4,none⟩=some (.bool xh)/\u.cell? ⟨lb,lo+j*4+1,none⟩=some (.string xn)/\u.cell? ⟨lb,lo+j*4+2,none⟩=some (.int .i64 xc)/\u.cell? ⟨lb,lo+j*4+3,none⟩=some (.string xt))/\u.cell? ⟨B,0,none⟩=some (.slice ta fs.length tc)/\u.cell? ⟨g,k*8+5,none⟩=some (.slice (some ⟨lb,lo,none⟩) ls.length lc)):=fun u hb=>by
   obtain ⟨b,off,e,_,h1,h2,h3,h4⟩:=HQX.out u hb;injection e with e;injection e with e1 e2;subst e1 e2;have:=HX.out u hb;exact ⟨⟨h1,h2,h3,h4⟩,this.1,this.2.2.2.2.2.2.1⟩
  have HLJ:=Q0 hlo;clear hlo HQX
  go_upto_region 24 with fail
  obtain ⟨v0,hv0⟩:∃ x:World,x=wr.drew:=⟨_,rfl⟩;have hB0:Below x4.heap.size x4 v0:=by rw [hv0];exact HB3.out.drew
  refine wp_region_held_drew (S:=fun u=>(u.cell? ⟨lb,lo+j*4,none⟩=some (.bool xh)/\u.cell? ⟨lb,lo+j*4+1,none⟩=some (.string xn)/\u.cell? ⟨lb,lo+j*4+2,none⟩=some (.int .i64 xc)/\u.cell? ⟨lb,lo+j*4+3,none⟩=some (.string xt))/\u.cell? ⟨B,0,none⟩=some (.slice ta fs.length tc)/\u.cell? ⟨g,k*8+5,none⟩=some (.slice (some ⟨lb,lo,none⟩) ls.length lc)) I1 (HY.out _ HB3.out.drew) fun hH=>?_;rw [<- hv0] at hH ⊢;clear hv0 q6;refine tq 0 hH ?_;simp only [qq];refine tq 1 hH ?_;simp only [qq];refine tq 2 hH ?_;simp only [qq];refine tq 3 hH ?_;simp only [qq];refine tq 4 hH ?_;simp only [qq];refine tq 5 hH ?_;simp only [qq];refine tq 6 hH ?_;simp only [qq];refine tq 7 hH ?_;simp only [qq];refine tq 8 hH ?_;simp only [qq];cases xh
  · obtain ⟨hxl,hxr⟩:=HLJ.out rfl
    have hxl:xn.size<=20:=hxl;have vW:=Q0 hxr;clear hxr HLJ;refine tq 9 hH ?_;simp only [qq];refine tq 10 hH ?_;simp only [qq];refine tq 11 hH ?_;simp only [qq];refine tq 12 hH ?_;simp only [qq];refine tq 13 hH ?_;simp only [qq];refine tq 14 hH ?_;simp only [qq];refine tq 15 hH ?_;simp only [qq];refine tq 16 hH ?_;simp only [qq];refine tq 17 hH ?_;simp only [qq];refine tq 18 hH ?_;simp only [qq];refine tq 19 hH ?_;simp only [qq];refine tq 20 hH ?_;simp only [qq];refine tq 21 hH ?_;simp only [qq];refine tq 22 hH ?_;simp only [qq];refine tq 23 hH ?_;simp only [qq];refine tq 24 hH ?_;simp only [qq];refine tq 25 hH ?_;simp only [qq];refine tq 26 hH ?_;simp only [qq];refine tq 27 hH ?_;simp only [qq];refine tq 28 hH ?_;simp only [qq];refine tq 29 hH ?_;simp only [qq];refine rq 30 fun K hK=>?_;go_simp;have mO:=Q0 (HE.out.below hB0);refine (c6 ta tc fs xn v0 O0 uV.out mO.out.at_ O0 mO.out.st).mono ?_;rintro e v1 ⟨⟨d3,hd3,rfl⟩,hb1⟩;have e3:=vW.out _ hd3;have hB1:=bT hB0 hb1;clear hd3 hb1 mO;unfold Av;rw [e3];go_simp;clear hH;refine hK.out _ _ (HY.out _ hB1) fun hH=>?_;clear hK K hB0
    try simp only [qq]
    refine tq (v:=.bool false) 31 hH ?_ (hv:=by intro u hu;simp [go_sem]);simp only [qq];refine tq 32 hH ?_;simp only [qq];refine wpAnyH_done I1 ?_ _;clear hH;go_wp2;go_roundw
    case rel=>exact ⟨j+1,by go_num,O0,hB1⟩
    case measure=>simp [intOf];omega
  refine tq 9 hH ?_;simp only [qq];refine tq 10 hH ?_;simp only [qq];refine uq 11 hH ?_;simp only [qq];refine uq 12 hH ?_;simp only [qq];refine uq 13 hH ?_;simp only [qq];refine uq 14 hH ?_;simp only [qq];refine uq 15 hH ?_;simp only [qq];refine uq 16 hH ?_;simp only [qq];refine uq 17 hH ?_;simp only [qq];refine uq 18 hH ?_;simp only [qq];refine uq 19 hH ?_;simp only [qq];refine uq 20 hH ?_;simp only [qq];refine uq 21 hH ?_;simp only [qq];refine uq 22 hH ?_;simp only [qq];refine uq 23 hH ?_;simp only [qq];refine uq 24 hH ?_;simp only [qq];refine uq 25 hH ?_;simp only [qq];refine uq 26 hH ?_;simp only [qq];refine uq 27 hH ?_;simp only [qq];refine uq 28 hH ?_;simp only [qq];refine uq 29 hH ?_;simp only [qq];refine uq 30 hH ?_;simp only [qq];refine uq 31 hH ?_;simp only [qq];refine tq 32 hH ?_;simp only [qq];refine wpAnyH_done I1 ?_ _;clear hH;go_wp2;go_roundw
  case rel=>exact ⟨j+1,by go_num,O0,hB0⟩
  case measure=>simp [intOf];omega
end Go.Proofs.YtdpoaadafcaffaaGreatDoor
