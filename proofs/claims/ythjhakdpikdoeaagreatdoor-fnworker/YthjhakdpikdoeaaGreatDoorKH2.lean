import Derived.Test.YthjhakdpikdoeaaGreatDoorNH
import Derived.Test.YthjhakdpikdoeaaGreatDoorKH1
set_option linter.unusedVariables false
set_option maxHeartbeats 8000000
set_option maxRecDepth 100000
namespace Go.Proofs.YthjhakdpikdoeaaGreatDoor
open Proofs.Tryz
open Go.RowKit
theorem c83 (x:M.W19) (t:TN) (B:Nat) (b:Option Addr) (n:Nat) (ao:Option Addr) (cp:Nat) (w:World) (Z:M.BlkAt w B (lpL x.no x.up x.has x.of b n (.slice ao 1 cp))) (f:M.OpnAt w B) (hB:B<w.heap.size) (hO:w.ownsRow (B+1) 31 16 (.slice ao 1 cp) 1 (loL x.no)) (hm:x.of.km.le 1048576) (hl:x.of.ls.length<=1048576) (hs:∀ i,(x.of.ls.getD i M.l4z).le 1048576) (hat:M.LksAt w b x.of.ls) (hsh:ShapesAt w) (hmx:MaxAt w) (ht:goT x.of.km x.of.ls=t):
 Calls prog 83 #[.pointer (some ⟨B,0,none⟩)] w fun e w'=>e=.returned (.func (.func 102) #[.pointer (some ⟨B,0,none⟩)] #[])/\(∃ v,M.BlkAt w' B (lpL x.no x.up x.has x.of b n v)/\w'.ownsRow (B+1) 31 16 v 2 ((loL x.no)++[.int .i64 2,.int .i64 0,.int .i64 x.no,.int .i64 x.of.ep,.int .i64 x.of.ed,.string x.of.km.nm,.string ⟨#[]⟩,.string ⟨#[]⟩,.slice none 0 0,.int .i64 x.of.ls.length,.bool t.over,.int .i64 t.code,.string t.text,.bool t.has,.string t.name,.int .i64 t.steps]))/\M.OpnAt w' B/\Below B w w':=by
 have a3:=Z 3 _ rfl;have a4:=Z 4 _ rfl;have a5:=Z 5 _ rfl;have a6:=Z 6 _ rfl;have a7:=Z 7 _ rfl;have a8:=Z 8 _ rfl;have a9:=Z 9 _ rfl;have a10:=Z 10 _ rfl;have a11:=Z 11 _ rfl;have a12:=Z 12 _ rfl;have a13:=Z 13 _ rfl;have a14:=Z 14 _ rfl;have a15:=Z 15 _ rfl;have a16:=Z 16 _ rfl;have a17:=Z 17 _ rfl;have a18:=Z 18 _ rfl;obtain ⟨i0,hi,hz0,hz1,hz2⟩:=info_parts info31;obtain ⟨wA,hwA⟩:∃ wA,wA=w.alloc (.cells (lgA x.of b n) 31):=⟨_,rfl⟩;have HWA:Hid (wA=w.alloc (.cells (lgA x.of b n) 31)):=hwA;obtain ⟨Of,hOe⟩:∃ Of,Of=w.heap.size:=⟨_,rfl⟩;have HOE:Hid (Of=w.heap.size):=hOe;have hzA:wA.heap.size=w.heap.size+1:=by rw [hwA];simp
 have hbA:Below w.heap.size w wA:=by rw [hwA];exact bA
 have HBA:Hid (Below w.heap.size w wA):=hbA;have HZ:Hid (M.BlkAt wA B (lpL x.no x.up x.has x.of b n (.slice ao 1 cp))):=Z.below hbA hB;have HF:Hid (M.OpnAt wA B):=f.below hbA hB;have HQ:Hid (M.BlkAt wA Of (lgL x.of b n)):=by
  show M.BlkAt wA Of _;rw [hwA,hOe];exact M.blk_new w (lgL x.of b n) 31
 have HOW:Hid (w.ownsRow (B+1) 31 16 (.slice ao 1 cp) 1 (loL x.no)):=hO;have HO:Hid (wA.ownsRow (B+1) 31 16 (.slice ao 1 cp) 1 (loL x.no)):=ownsRow_below hO hbA;have HAT:Hid (M.LksAt wA.drew b x.of.ls):=M.lks_below (M.lks_below hat hbA) (Below.refl _ _).drew;have HSH:Hid (ShapesAt wA.drew):=shapes_below (shapes_below hsh hbA) (Below.refl _ _).drew;have HMX:Hid (MaxAt wA.drew):=max_below (max_below hmx hbA) (Below.refl _ _).drew;have HM:Hid (x.of.km.le 1048576):=hm;have HS:Hid (∀ i,(x.of.ls.getD i M.l4z).le 1048576):=hs;have HT:Hid (goT x.of.km x.of.ls=t):=ht;have hBA:B<wA.heap.size:=om_;have hOf:Of<wA.heap.size:=om_;clear Z f hat hsh hmx hm hs ht hO hwA hbA hOe;go_enter func83,ntmps83
 go_wp2_with fail
 rw [<- HWA.out];clear a3 a4 a5 a6 a7 a8 a9 a10 a11 a12 a13 a14 a15 a16 a17 a18;rw [<- HOE.out];have q35:=HZ.out 35 _ rfl;have d35:wA.drew.cell? ⟨B,35,none⟩=some (.slice ao 1 cp):=by simpa using q35
 have b0:wA.drew.cell? ⟨B,0,none⟩=some (.int .i64 x.no):=by simpa using HZ.out 0 _ rfl
 have o3:wA.drew.cell? ⟨Of,3,none⟩=some (.int .i64 x.of.ep):=by simpa using HQ.out 3 _ rfl
 have o4:wA.drew.cell? ⟨Of,4,none⟩=some (.int .i64 x.of.ed):=by simpa using HQ.out 4 _ rfl
 have o5:wA.drew.cell? ⟨Of,5,none⟩=some (.string x.of.km.nm):=by simpa using HQ.out 5 _ rfl
 have o6:wA.drew.cell? ⟨Of,6,none⟩=some (.string x.of.km.tl):=by simpa using HQ.out 6 _ rfl
 have o7:wA.drew.cell? ⟨Of,7,none⟩=some (.string x.of.km.ar):=by simpa using HQ.out 7 _ rfl
 have o8:wA.drew.cell? ⟨Of,8,none⟩=some (.slice b x.of.ls.length n):=by simpa using HQ.out 8 _ rfl
 refine wp_region_held_drew (S:=(fun u=>u.cell? ⟨B,0,none⟩=some (.int .i64 x.no)/\u.cell? ⟨Of,3,none⟩=some (.int .i64 x.of.ep)/\u.cell? ⟨Of,4,none⟩=some (.int .i64 x.of.ed)/\u.cell? ⟨Of,5,none⟩=some (.string x.of.km.nm)/\u.cell? ⟨Of,6,none⟩=some (.string x.of.km.tl)/\u.cell? ⟨Of,7,none⟩=some (.string x.of.km.ar)/\u.cell? ⟨Of,8,none⟩=some (.slice b x.of.ls.length n))) kr_ ?_ fun hHeld=>?_
 · ((try dsimp only);go_keep)
 refine tq 0 hHeld ?_
 try simp only [qq]
 refine tq 1 hHeld ?_
 try simp only [qq]
 refine tq 2 hHeld ?_
 try simp only [qq]
 refine tq 3 hHeld ?_
 try simp only [qq]
 refine tq 5 hHeld ?_
 try simp only [qq]
 refine tq 6 hHeld ?_
 try simp only [qq]
 refine tq 7 hHeld ?_
 try simp only [qq]
 refine tq 8 hHeld ?_
 try simp only [qq]
 refine tq 9 hHeld ?_
 try simp only [qq]
 refine tq 10 hHeld ?_
 try simp only [qq]
 refine tq 11 hHeld ?_
 try simp only [qq]
 refine tq 12 hHeld ?_
 try simp only [qq]
 refine tq 13 hHeld ?_
 try simp only [qq]
 refine tq 14 hHeld ?_
 try simp only [qq]
 refine tq 15 hHeld ?_
 try simp only [qq]
 refine tq 16 hHeld ?_
 try simp only [qq]
 refine tq 17 hHeld ?_
 try simp only [qq]
 refine tq 18 hHeld ?_
 try simp only [qq]
 refine tq 19 hHeld ?_
 try simp only [qq]
 refine tq 20 hHeld ?_
 try simp only [qq]
 refine tq 21 hHeld ?_
 try simp only [qq]
 refine tq 22 hHeld ?_
 try simp only [qq]
 refine tq 23 hHeld ?_
 try simp only [qq]
 refine tq 24 hHeld ?_
 try simp only [qq]
 refine wpAnyH_ready (rs:=[4,25]) kr_ sm_ ?_;refine AllReadyH.cons (o:=⟨some 13,.load 37 (.tmp 12),37,_,_,none⟩) rfl (fun K hK=>?_) (AllReadyH.cons (o:=⟨some 34,.call ⟨.value (.func 13),#[.tmp 31,.tmp 33],#[24,25]⟩,29,_,_,none⟩) rfl (fun K hK=>?_) AllReadyH.nil)
 · go_simp
   clear hHeld;refine hK.out _ _ ?_ fun hHeld=>?_
   · ((try dsimp only);go_keep)
   clear hK K
   try simp only [qq]
   refine rq 25 fun K hK=>?_;go_simp;refine (c13t x.of.km b n x.of.ls wA.drew HM.out hl HS.out HAT.out HSH.out HMX.out HT.out).mono ?_;rintro e w3 ⟨rfl,hb3⟩;have HB3:Hid (Below wA.heap.size wA w3):=(Below.refl _ _).drew.trans hb3;have HZ3:Hid (M.BlkAt w3 B (lpL x.no x.up x.has x.of b n (.slice ao 1 cp))):=HZ.out.below HB3.out hBA;have HF3:Hid (M.OpnAt w3 B):=HF.out.below HB3.out hBA;have HQ3:Hid (M.BlkAt w3 Of (lgL x.of b n)):=HQ.out.below HB3.out hOf;have HO3:Hid (w3.ownsRow (B+1) 31 16 (.slice ao 1 cp) 1 (loL x.no)):=ownsRow_below HO.out HB3.out;have hz3:wA.heap.size<=w3.heap.size:=HB3.out.size;have c0:=HZ3.out 0 _ rfl;have co3:=HQ3.out 3 _ rfl;have co4:=HQ3.out 4 _ rfl;have co5:=HQ3.out 5 _ rfl;have co6:=HQ3.out 6 _ rfl;have co7:=HQ3.out 7 _ rfl;have co8:=HQ3.out 8 _ rfl;have c58:=HZ3.out 35 _ rfl;clear hb3
   go_wp2_with fail
   clear hHeld;refine hK.out _ _ ?_ fun hHeld=>?_
   · ((try dsimp only);go_keep)
   clear hK K
   try simp only [qq]
   refine tq 26 hHeld ?_
   try simp only [qq]
   refine rq 27 fun K hK=>?_;go_simp;have HZ4:Hid (M.BlkAt (w3.alloc (.cells #[.int .i64 2,.int .i64 0,.int .i64 x.no,.int .i64 x.of.ep,.int .i64 x.of.ed,.string x.of.km.nm,.string ⟨#[]⟩,.string ⟨#[]⟩,.slice none 0 0,.int .i64 x.of.ls.length,.bool t.over,.int .i64 t.code,.string t.text,.bool t.has,.string t.name,.int .i64 t.steps] 31)) B (lpL x.no x.up x.has x.of b n (.slice ao 1 cp))):=HZ3.out.below bA om_;have HF4:Hid (M.OpnAt (w3.alloc (.cells #[.int .i64 2,.int .i64 0,.int .i64 x.no,.int .i64 x.of.ep,.int .i64 x.of.ed,.string x.of.km.nm,.string ⟨#[]⟩,.string ⟨#[]⟩,.slice none 0 0,.int .i64 x.of.ls.length,.bool t.over,.int .i64 t.code,.string t.text,.bool t.has,.string t.name,.int .i64 t.steps] 31)) B):=HF3.out.below bA om_;have HQ4:Hid (M.BlkAt (w3.alloc (.cells #[.int .i64 2,.int .i64 0,.int .i64 x.no,.int .i64 x.of.ep,.int .i64 x.of.ed,.string x.of.km.nm,.string ⟨#[]⟩,.string ⟨#[]⟩,.slice none 0 0,.int .i64 x.of.ls.length,.bool t.over,.int .i64 t.code,.string t.text,.bool t.has,.string t.name,.int .i64 t.steps] 31)) Of (lgL x.of b n)):=HQ3.out.below bA om_;have HO4:Hid ((w3.alloc (.cells #[.int .i64 2,.int .i64 0,.int .i64 x.no,.int .i64 x.of.ep,.int .i64 x.of.ed,.string x.of.km.nm,.string ⟨#[]⟩,.string ⟨#[]⟩,.slice none 0 0,.int .i64 x.of.ls.length,.bool t.over,.int .i64 t.code,.string t.text,.bool t.has,.string t.name,.int .i64 t.steps] 31)).ownsRow (B+1) 31 16 (.slice ao 1 cp) 1 (loL x.no)):=World.ownsRow.alloc HO3.out _;have HB4:Hid (Below wA.heap.size wA (w3.alloc (.cells #[.int .i64 2,.int .i64 0,.int .i64 x.no,.int .i64 x.of.ep,.int .i64 x.of.ed,.string x.of.km.nm,.string ⟨#[]⟩,.string ⟨#[]⟩,.slice none 0 0,.int .i64 x.of.ls.length,.bool t.over,.int .i64 t.code,.string t.text,.bool t.has,.string t.name,.int .i64 t.steps] 31))):=HB3.out.alloc hz3 _;have HR4:Hid (∀ j u,([.int .i64 2,.int .i64 0,.int .i64 x.no,.int .i64 x.of.ep,.int .i64 x.of.ed,.string x.of.km.nm,.string ⟨#[]⟩,.string ⟨#[]⟩,.slice none 0 0,.int .i64 x.of.ls.length,.bool t.over,.int .i64 t.code,.string t.text,.bool t.has,.string t.name,.int .i64 t.steps]:List Value)[j]?=some u->(w3.alloc (.cells #[.int .i64 2,.int .i64 0,.int .i64 x.no,.int .i64 x.of.ep,.int .i64 x.of.ed,.string x.of.km.nm,.string ⟨#[]⟩,.string ⟨#[]⟩,.slice none 0 0,.int .i64 x.of.ls.length,.bool t.over,.int .i64 t.code,.string t.text,.bool t.has,.string t.name,.int .i64 t.steps] 31)).cell? ((⟨w3.heap.size,0,none⟩:Addr).add j)=some u):=row16n rfl [.int .i64 2,.int .i64 0,.int .i64 x.no,.int .i64 x.of.ep,.int .i64 x.of.ed,.string x.of.km.nm,.string ⟨#[]⟩,.string ⟨#[]⟩,.slice none 0 0,.int .i64 x.of.ls.length,.bool t.over,.int .i64 t.code,.string t.text,.bool t.has,.string t.name,.int .i64 t.steps] 31;have hz4:(w3.alloc (.cells #[.int .i64 2,.int .i64 0,.int .i64 x.no,.int .i64 x.of.ep,.int .i64 x.of.ed,.string x.of.km.nm,.string ⟨#[]⟩,.string ⟨#[]⟩,.slice none 0 0,.int .i64 x.of.ls.length,.bool t.over,.int .i64 t.code,.string t.text,.bool t.has,.string t.name,.int .i64 t.steps] 31)).heap.size=w3.heap.size+1:=sm_;have e0:=HZ4.out 0 _ rfl;have eo3:=HQ4.out 3 _ rfl;have eo4:=HQ4.out 4 _ rfl;have eo5:=HQ4.out 5 _ rfl;have eo6:=HQ4.out 6 _ rfl;have eo7:=HQ4.out 7 _ rfl;have eo8:=HQ4.out 8 _ rfl;have e35:=HZ4.out 35 _ rfl;clear hHeld;refine hK.out _ _ ?_ fun hHeld=>?_
   · ((try dsimp only);go_keep)
   clear hK K
   try simp only [qq]
   generalize (w3.alloc (.cells #[.int .i64 2,.int .i64 0,.int .i64 x.no,.int .i64 x.of.ep,.int .i64 x.of.ed,.string x.of.km.nm,.string ⟨#[]⟩,.string ⟨#[]⟩,.slice none 0 0,.int .i64 x.of.ls.length,.bool t.over,.int .i64 t.code,.string t.text,.bool t.has,.string t.name,.int .i64 t.steps] 31))=w4 at*;refine rq 28 fun K hK=>?_;refine step_app rfl (.tmp 13) (.tmp 36) 37 rfl (B+1) 31 i0 (.agg lzA) 16 184 underlying37 hi hz0 hz1 hz2 rfl dc_ _ _ _ rfl HO4.out ⟨w3.heap.size,0,none⟩ 1 1 [.int .i64 2,.int .i64 0,.int .i64 x.no,.int .i64 x.of.ep,.int .i64 x.of.ed,.string x.of.km.nm,.string ⟨#[]⟩,.string ⟨#[]⟩,.slice none 0 0,.int .i64 x.of.ls.length,.bool t.over,.int .i64 t.code,.string t.text,.bool t.has,.string t.name,.int .i64 t.steps] rfl rfl HR4.out (by simp [Value.oneCell']) (by unfold maxLen;omega) om_ om_ ?_;intro v' w5 hown5 hgrow;have hrow:∀ k,(Value.slice ao 1 cp).ownBlock=some k->B+1<=k:=fun k hk=>(own_block HO4.out hk).1;have hOfr:∀ k,(Value.slice ao 1 cp).ownBlock=some k->k<w.heap.size:=fun k hk=>by obtain ⟨_,cur,hc⟩:=own_block HOW.out hk;exact blk_lt hc
   have hbl:∀ k,k<w4.heap.size->some k≠(Value.slice ao 1 cp).ownBlock->w5.heap[k]?=w4.heap[k]?:=fun k hk hne=>hgrow.block k hk hne;have HB5:Hid (Below B w w5):=((HBA.out.mono om_).trans (HB4.out.mono om_)).grown hgrow om_ (fun k hk=>by have:=hrow k hk;omega);have hBB:w5.heap[B]?=w4.heap[B]?:=hbl B om_ (fun e=>by have:=hrow B e.symm;omega);have hOO:w5.heap[Of]?=w4.heap[Of]?:=hbl Of om_ (fun e=>by have:=hOfr Of e.symm;have:=HOE.out;omega);have HZ5:Hid (M.BlkAt w5 B (lpL x.no x.up x.has x.of b n (.slice ao 1 cp))):=fun j v e=>(World.cell?_of_block (a:=⟨B,j,none⟩) hBB).trans (HZ4.out j v e);have HF5:Hid (M.OpnAt w5 B):=fun j=>(World.frozen?_of_block (a:=⟨B,j,none⟩) hBB).trans (HF4.out j);have HQ5:Hid (M.BlkAt w5 Of (lgL x.of b n)):=fun j v e=>(World.cell?_of_block (a:=⟨Of,j,none⟩) hOO).trans (HQ4.out j v e);obtain ⟨a5,c3,rfl⟩:=row_formN hown5;have HO5:Hid (w5.ownsRow (B+1) 31 16 (.slice a5 2 c3) 2 ((loL x.no)++[.int .i64 2,.int .i64 0,.int .i64 x.no,.int .i64 x.of.ep,.int .i64 x.of.ed,.string x.of.km.nm,.string ⟨#[]⟩,.string ⟨#[]⟩,.slice none 0 0,.int .i64 x.of.ls.length,.bool t.over,.int .i64 t.code,.string t.text,.bool t.has,.string t.name,.int .i64 t.steps])):=hown5;have g0:=HZ5.out 0 _ rfl;have go3:=HQ5.out 3 _ rfl;have go4:=HQ5.out 4 _ rfl;have go5:=HQ5.out 5 _ rfl;have go6:=HQ5.out 6 _ rfl;have go7:=HQ5.out 7 _ rfl;have go8:=HQ5.out 8 _ rfl;have g35:=HZ5.out 35 _ rfl;have gf35:=HF5.out 35;clear hgrow hown5 hbl hBB hOO hrow hOfr;clear hHeld;refine hK.out _ _ ?_ fun hHeld=>?_
   · ((try dsimp only);go_keep)
   clear hK K
   try simp only [qq]
   refine tq 29 hHeld ?_
   try simp only [qq]
   refine tq 30 hHeld ?_
   try simp only [qq]
   refine rq 31 fun K hK=>?_;go_simp;have HZ6:Hid (M.BlkAt (w5.setCell ⟨B,35,none⟩ (.slice a5 2 c3)) B (lpL x.no x.up x.has x.of b n (.slice a5 2 c3))):=HZ5.out.set 35 (.slice a5 2 c3) sm_;have HQ6:Hid (M.BlkAt (w5.setCell ⟨B,35,none⟩ (.slice a5 2 c3)) Of (lgL x.of b n)):=HQ5.out.other ⟨B,35,none⟩ _ (by show B≠Of;have:=HOE.out;omega);have k0:=HZ6.out 0 _ rfl;have ko3:=HQ6.out 3 _ rfl;have ko4:=HQ6.out 4 _ rfl;have ko5:=HQ6.out 5 _ rfl;have ko6:=HQ6.out 6 _ rfl;have ko7:=HQ6.out 7 _ rfl;have ko8:=HQ6.out 8 _ rfl;clear hHeld;refine hK.out _ _ ?_ fun hHeld=>?_
   · ((try dsimp only);go_keep)
   clear hK K
   try simp only [qq]
   refine wpAnyH_done kr_ ?_ _;clear hHeld;have HF6:Hid (M.OpnAt (w5.setCell ⟨B,35,none⟩ (.slice a5 2 c3)) B):=HF5.out.set _ _;have HO6:Hid ((w5.setCell ⟨B,35,none⟩ (.slice a5 2 c3)).ownsRow (B+1) 31 16 (.slice a5 2 c3) 2 ((loL x.no)++[.int .i64 2,.int .i64 0,.int .i64 x.no,.int .i64 x.of.ep,.int .i64 x.of.ed,.string x.of.km.nm,.string ⟨#[]⟩,.string ⟨#[]⟩,.slice none 0 0,.int .i64 x.of.ls.length,.bool t.over,.int .i64 t.code,.string t.text,.bool t.has,.string t.name,.int .i64 t.steps])):=ownsRow_setCell_below HO5.out (by show B<B+1;omega) _;have HB6:Hid (Below B w (w5.setCell ⟨B,35,none⟩ (.slice a5 2 c3))):=HB5.out.setCell (by exact Nat.le_refl B) _;go_wp2;go_ret;exact ⟨rfl,⟨_,HZ6.out,HO6.out⟩,HF6.out,HB6.out⟩
 go_simp;refine (c13t x.of.km b n x.of.ls wA.drew HM.out hl HS.out HAT.out HSH.out HMX.out HT.out).mono ?_;rintro e w3 ⟨rfl,hb3⟩;have HB3:Hid (Below wA.heap.size wA w3):=(Below.refl _ _).drew.trans hb3;have HZ3:Hid (M.BlkAt w3 B (lpL x.no x.up x.has x.of b n (.slice ao 1 cp))):=HZ.out.below HB3.out hBA;have HF3:Hid (M.OpnAt w3 B):=HF.out.below HB3.out hBA;have HQ3:Hid (M.BlkAt w3 Of (lgL x.of b n)):=HQ.out.below HB3.out hOf;have HO3:Hid (w3.ownsRow (B+1) 31 16 (.slice ao 1 cp) 1 (loL x.no)):=ownsRow_below HO.out HB3.out;have hz3:wA.heap.size<=w3.heap.size:=HB3.out.size;have c0:=HZ3.out 0 _ rfl;have co3:=HQ3.out 3 _ rfl;have co4:=HQ3.out 4 _ rfl;have co5:=HQ3.out 5 _ rfl;have co6:=HQ3.out 6 _ rfl;have co7:=HQ3.out 7 _ rfl;have co8:=HQ3.out 8 _ rfl;have c58:=HZ3.out 35 _ rfl;clear hb3
 go_wp2_with fail
 clear hHeld;refine hK.out _ _ ?_ fun hHeld=>?_
 · ((try dsimp only);go_keep)
 clear hK K
 try simp only [qq]
 refine tq 26 hHeld ?_
 try simp only [qq]
 refine wpAnyH_ready (rs:=[4,27]) kr_ sm_ ?_;refine AllReadyH.cons (o:=⟨some 13,.load 37 (.tmp 12),37,_,_,none⟩) rfl (fun K hK=>?_) (AllReadyH.cons (o:=⟨some 36,.buildSlice 37 1 #[(0,.tmp 35)],37,_,_,none⟩) rfl (fun K hK=>?_) AllReadyH.nil)
 · go_simp
   clear hHeld;refine hK.out _ _ ?_ fun hHeld=>?_
   · ((try dsimp only);go_keep)
   clear hK K
   try simp only [qq]
   refine rq 27 fun K hK=>?_;go_simp;have HZ4:Hid (M.BlkAt (w3.alloc (.cells #[.int .i64 2,.int .i64 0,.int .i64 x.no,.int .i64 x.of.ep,.int .i64 x.of.ed,.string x.of.km.nm,.string ⟨#[]⟩,.string ⟨#[]⟩,.slice none 0 0,.int .i64 x.of.ls.length,.bool t.over,.int .i64 t.code,.string t.text,.bool t.has,.string t.name,.int .i64 t.steps] 31)) B (lpL x.no x.up x.has x.of b n (.slice ao 1 cp))):=HZ3.out.below bA om_;have HF4:Hid (M.OpnAt (w3.alloc (.cells #[.int .i64 2,.int .i64 0,.int .i64 x.no,.int .i64 x.of.ep,.int .i64 x.of.ed,.string x.of.km.nm,.string ⟨#[]⟩,.string ⟨#[]⟩,.slice none 0 0,.int .i64 x.of.ls.length,.bool t.over,.int .i64 t.code,.string t.text,.bool t.has,.string t.name,.int .i64 t.steps] 31)) B):=HF3.out.below bA om_;have HQ4:Hid (M.BlkAt (w3.alloc (.cells #[.int .i64 2,.int .i64 0,.int .i64 x.no,.int .i64 x.of.ep,.int .i64 x.of.ed,.string x.of.km.nm,.string ⟨#[]⟩,.string ⟨#[]⟩,.slice none 0 0,.int .i64 x.of.ls.length,.bool t.over,.int .i64 t.code,.string t.text,.bool t.has,.string t.name,.int .i64 t.steps] 31)) Of (lgL x.of b n)):=HQ3.out.below bA om_;have HO4:Hid ((w3.alloc (.cells #[.int .i64 2,.int .i64 0,.int .i64 x.no,.int .i64 x.of.ep,.int .i64 x.of.ed,.string x.of.km.nm,.string ⟨#[]⟩,.string ⟨#[]⟩,.slice none 0 0,.int .i64 x.of.ls.length,.bool t.over,.int .i64 t.code,.string t.text,.bool t.has,.string t.name,.int .i64 t.steps] 31)).ownsRow (B+1) 31 16 (.slice ao 1 cp) 1 (loL x.no)):=World.ownsRow.alloc HO3.out _;have HB4:Hid (Below wA.heap.size wA (w3.alloc (.cells #[.int .i64 2,.int .i64 0,.int .i64 x.no,.int .i64 x.of.ep,.int .i64 x.of.ed,.string x.of.km.nm,.string ⟨#[]⟩,.string ⟨#[]⟩,.slice none 0 0,.int .i64 x.of.ls.length,.bool t.over,.int .i64 t.code,.string t.text,.bool t.has,.string t.name,.int .i64 t.steps] 31))):=HB3.out.alloc hz3 _;have HR4:Hid (∀ j u,([.int .i64 2,.int .i64 0,.int .i64 x.no,.int .i64 x.of.ep,.int .i64 x.of.ed,.string x.of.km.nm,.string ⟨#[]⟩,.string ⟨#[]⟩,.slice none 0 0,.int .i64 x.of.ls.length,.bool t.over,.int .i64 t.code,.string t.text,.bool t.has,.string t.name,.int .i64 t.steps]:List Value)[j]?=some u->(w3.alloc (.cells #[.int .i64 2,.int .i64 0,.int .i64 x.no,.int .i64 x.of.ep,.int .i64 x.of.ed,.string x.of.km.nm,.string ⟨#[]⟩,.string ⟨#[]⟩,.slice none 0 0,.int .i64 x.of.ls.length,.bool t.over,.int .i64 t.code,.string t.text,.bool t.has,.string t.name,.int .i64 t.steps] 31)).cell? ((⟨w3.heap.size,0,none⟩:Addr).add j)=some u):=row16n rfl [.int .i64 2,.int .i64 0,.int .i64 x.no,.int .i64 x.of.ep,.int .i64 x.of.ed,.string x.of.km.nm,.string ⟨#[]⟩,.string ⟨#[]⟩,.slice none 0 0,.int .i64 x.of.ls.length,.bool t.over,.int .i64 t.code,.string t.text,.bool t.has,.string t.name,.int .i64 t.steps] 31;have hz4:(w3.alloc (.cells #[.int .i64 2,.int .i64 0,.int .i64 x.no,.int .i64 x.of.ep,.int .i64 x.of.ed,.string x.of.km.nm,.string ⟨#[]⟩,.string ⟨#[]⟩,.slice none 0 0,.int .i64 x.of.ls.length,.bool t.over,.int .i64 t.code,.string t.text,.bool t.has,.string t.name,.int .i64 t.steps] 31)).heap.size=w3.heap.size+1:=sm_;have e0:=HZ4.out 0 _ rfl;have eo3:=HQ4.out 3 _ rfl;have eo4:=HQ4.out 4 _ rfl;have eo5:=HQ4.out 5 _ rfl;have eo6:=HQ4.out 6 _ rfl;have eo7:=HQ4.out 7 _ rfl;have eo8:=HQ4.out 8 _ rfl;have e35:=HZ4.out 35 _ rfl;clear hHeld;refine hK.out _ _ ?_ fun hHeld=>?_
   · ((try dsimp only);go_keep)
   clear hK K
   try simp only [qq]
   generalize (w3.alloc (.cells #[.int .i64 2,.int .i64 0,.int .i64 x.no,.int .i64 x.of.ep,.int .i64 x.of.ed,.string x.of.km.nm,.string ⟨#[]⟩,.string ⟨#[]⟩,.slice none 0 0,.int .i64 x.of.ls.length,.bool t.over,.int .i64 t.code,.string t.text,.bool t.has,.string t.name,.int .i64 t.steps] 31))=w4 at*;refine rq 28 fun K hK=>?_;refine step_app rfl (.tmp 13) (.tmp 36) 37 rfl (B+1) 31 i0 (.agg lzA) 16 184 underlying37 hi hz0 hz1 hz2 rfl dc_ _ _ _ rfl HO4.out ⟨w3.heap.size,0,none⟩ 1 1 [.int .i64 2,.int .i64 0,.int .i64 x.no,.int .i64 x.of.ep,.int .i64 x.of.ed,.string x.of.km.nm,.string ⟨#[]⟩,.string ⟨#[]⟩,.slice none 0 0,.int .i64 x.of.ls.length,.bool t.over,.int .i64 t.code,.string t.text,.bool t.has,.string t.name,.int .i64 t.steps] rfl rfl HR4.out (by simp [Value.oneCell']) (by unfold maxLen;omega) om_ om_ ?_;intro v' w5 hown5 hgrow;have hrow:∀ k,(Value.slice ao 1 cp).ownBlock=some k->B+1<=k:=fun k hk=>(own_block HO4.out hk).1;have hOfr:∀ k,(Value.slice ao 1 cp).ownBlock=some k->k<w.heap.size:=fun k hk=>by obtain ⟨_,cur,hc⟩:=own_block HOW.out hk;exact blk_lt hc
   have hbl:∀ k,k<w4.heap.size->some k≠(Value.slice ao 1 cp).ownBlock->w5.heap[k]?=w4.heap[k]?:=fun k hk hne=>hgrow.block k hk hne;have HB5:Hid (Below B w w5):=((HBA.out.mono om_).trans (HB4.out.mono om_)).grown hgrow om_ (fun k hk=>by have:=hrow k hk;omega);have hBB:w5.heap[B]?=w4.heap[B]?:=hbl B om_ (fun e=>by have:=hrow B e.symm;omega);have hOO:w5.heap[Of]?=w4.heap[Of]?:=hbl Of om_ (fun e=>by have:=hOfr Of e.symm;have:=HOE.out;omega);have HZ5:Hid (M.BlkAt w5 B (lpL x.no x.up x.has x.of b n (.slice ao 1 cp))):=fun j v e=>(World.cell?_of_block (a:=⟨B,j,none⟩) hBB).trans (HZ4.out j v e);have HF5:Hid (M.OpnAt w5 B):=fun j=>(World.frozen?_of_block (a:=⟨B,j,none⟩) hBB).trans (HF4.out j);have HQ5:Hid (M.BlkAt w5 Of (lgL x.of b n)):=fun j v e=>(World.cell?_of_block (a:=⟨Of,j,none⟩) hOO).trans (HQ4.out j v e);obtain ⟨a5,c3,rfl⟩:=row_formN hown5;have HO5:Hid (w5.ownsRow (B+1) 31 16 (.slice a5 2 c3) 2 ((loL x.no)++[.int .i64 2,.int .i64 0,.int .i64 x.no,.int .i64 x.of.ep,.int .i64 x.of.ed,.string x.of.km.nm,.string ⟨#[]⟩,.string ⟨#[]⟩,.slice none 0 0,.int .i64 x.of.ls.length,.bool t.over,.int .i64 t.code,.string t.text,.bool t.has,.string t.name,.int .i64 t.steps])):=hown5;have g0:=HZ5.out 0 _ rfl;have go3:=HQ5.out 3 _ rfl;have go4:=HQ5.out 4 _ rfl;have go5:=HQ5.out 5 _ rfl;have go6:=HQ5.out 6 _ rfl;have go7:=HQ5.out 7 _ rfl;have go8:=HQ5.out 8 _ rfl;have g35:=HZ5.out 35 _ rfl;have gf35:=HF5.out 35;clear hgrow hown5 hbl hBB hOO hrow hOfr;clear hHeld;refine hK.out _ _ ?_ fun hHeld=>?_
   · ((try dsimp only);go_keep)
   clear hK K
   try simp only [qq]
   refine tq 29 hHeld ?_
   try simp only [qq]
   refine tq 30 hHeld ?_
   try simp only [qq]
   refine rq 31 fun K hK=>?_;go_simp;have HZ6:Hid (M.BlkAt (w5.setCell ⟨B,35,none⟩ (.slice a5 2 c3)) B (lpL x.no x.up x.has x.of b n (.slice a5 2 c3))):=HZ5.out.set 35 (.slice a5 2 c3) sm_;have HQ6:Hid (M.BlkAt (w5.setCell ⟨B,35,none⟩ (.slice a5 2 c3)) Of (lgL x.of b n)):=HQ5.out.other ⟨B,35,none⟩ _ (by show B≠Of;have:=HOE.out;omega);have k0:=HZ6.out 0 _ rfl;have ko3:=HQ6.out 3 _ rfl;have ko4:=HQ6.out 4 _ rfl;have ko5:=HQ6.out 5 _ rfl;have ko6:=HQ6.out 6 _ rfl;have ko7:=HQ6.out 7 _ rfl;have ko8:=HQ6.out 8 _ rfl;clear hHeld;refine hK.out _ _ ?_ fun hHeld=>?_
   · ((try dsimp only);go_keep)
   clear hK K
   try simp only [qq]
   refine wpAnyH_done kr_ ?_ _;clear hHeld;have HF6:Hid (M.OpnAt (w5.setCell ⟨B,35,none⟩ (.slice a5 2 c3)) B):=HF5.out.set _ _;have HO6:Hid ((w5.setCell ⟨B,35,none⟩ (.slice a5 2 c3)).ownsRow (B+1) 31 16 (.slice a5 2 c3) 2 ((loL x.no)++[.int .i64 2,.int .i64 0,.int .i64 x.no,.int .i64 x.of.ep,.int .i64 x.of.ed,.string x.of.km.nm,.string ⟨#[]⟩,.string ⟨#[]⟩,.slice none 0 0,.int .i64 x.of.ls.length,.bool t.over,.int .i64 t.code,.string t.text,.bool t.has,.string t.name,.int .i64 t.steps])):=ownsRow_setCell_below HO5.out (by show B<B+1;omega) _;have HB6:Hid (Below B w (w5.setCell ⟨B,35,none⟩ (.slice a5 2 c3))):=HB5.out.setCell (by exact Nat.le_refl B) _;go_wp2;go_ret;exact ⟨rfl,⟨_,HZ6.out,HO6.out⟩,HF6.out,HB6.out⟩
 go_simp;have HZ4:Hid (M.BlkAt (w3.alloc (.cells #[.int .i64 2,.int .i64 0,.int .i64 x.no,.int .i64 x.of.ep,.int .i64 x.of.ed,.string x.of.km.nm,.string ⟨#[]⟩,.string ⟨#[]⟩,.slice none 0 0,.int .i64 x.of.ls.length,.bool t.over,.int .i64 t.code,.string t.text,.bool t.has,.string t.name,.int .i64 t.steps] 31)) B (lpL x.no x.up x.has x.of b n (.slice ao 1 cp))):=HZ3.out.below bA om_;have HF4:Hid (M.OpnAt (w3.alloc (.cells #[.int .i64 2,.int .i64 0,.int .i64 x.no,.int .i64 x.of.ep,.int .i64 x.of.ed,.string x.of.km.nm,.string ⟨#[]⟩,.string ⟨#[]⟩,.slice none 0 0,.int .i64 x.of.ls.length,.bool t.over,.int .i64 t.code,.string t.text,.bool t.has,.string t.name,.int .i64 t.steps] 31)) B):=HF3.out.below bA om_;have HQ4:Hid (M.BlkAt (w3.alloc (.cells #[.int .i64 2,.int .i64 0,.int .i64 x.no,.int .i64 x.of.ep,.int .i64 x.of.ed,.string x.of.km.nm,.string ⟨#[]⟩,.string ⟨#[]⟩,.slice none 0 0,.int .i64 x.of.ls.length,.bool t.over,.int .i64 t.code,.string t.text,.bool t.has,.string t.name,.int .i64 t.steps] 31)) Of (lgL x.of b n)):=HQ3.out.below bA om_;have HO4:Hid ((w3.alloc (.cells #[.int .i64 2,.int .i64 0,.int .i64 x.no,.int .i64 x.of.ep,.int .i64 x.of.ed,.string x.of.km.nm,.string ⟨#[]⟩,.string ⟨#[]⟩,.slice none 0 0,.int .i64 x.of.ls.length,.bool t.over,.int .i64 t.code,.string t.text,.bool t.has,.string t.name,.int .i64 t.steps] 31)).ownsRow (B+1) 31 16 (.slice ao 1 cp) 1 (loL x.no)):=World.ownsRow.alloc HO3.out _;have HB4:Hid (Below wA.heap.size wA (w3.alloc (.cells #[.int .i64 2,.int .i64 0,.int .i64 x.no,.int .i64 x.of.ep,.int .i64 x.of.ed,.string x.of.km.nm,.string ⟨#[]⟩,.string ⟨#[]⟩,.slice none 0 0,.int .i64 x.of.ls.length,.bool t.over,.int .i64 t.code,.string t.text,.bool t.has,.string t.name,.int .i64 t.steps] 31))):=HB3.out.alloc hz3 _;have HR4:Hid (∀ j u,([.int .i64 2,.int .i64 0,.int .i64 x.no,.int .i64 x.of.ep,.int .i64 x.of.ed,.string x.of.km.nm,.string ⟨#[]⟩,.string ⟨#[]⟩,.slice none 0 0,.int .i64 x.of.ls.length,.bool t.over,.int .i64 t.code,.string t.text,.bool t.has,.string t.name,.int .i64 t.steps]:List Value)[j]?=some u->(w3.alloc (.cells #[.int .i64 2,.int .i64 0,.int .i64 x.no,.int .i64 x.of.ep,.int .i64 x.of.ed,.string x.of.km.nm,.string ⟨#[]⟩,.string ⟨#[]⟩,.slice none 0 0,.int .i64 x.of.ls.length,.bool t.over,.int .i64 t.code,.string t.text,.bool t.has,.string t.name,.int .i64 t.steps] 31)).cell? ((⟨w3.heap.size,0,none⟩:Addr).add j)=some u):=row16n rfl [.int .i64 2,.int .i64 0,.int .i64 x.no,.int .i64 x.of.ep,.int .i64 x.of.ed,.string x.of.km.nm,.string ⟨#[]⟩,.string ⟨#[]⟩,.slice none 0 0,.int .i64 x.of.ls.length,.bool t.over,.int .i64 t.code,.string t.text,.bool t.has,.string t.name,.int .i64 t.steps] 31;have hz4:(w3.alloc (.cells #[.int .i64 2,.int .i64 0,.int .i64 x.no,.int .i64 x.of.ep,.int .i64 x.of.ed,.string x.of.km.nm,.string ⟨#[]⟩,.string ⟨#[]⟩,.slice none 0 0,.int .i64 x.of.ls.length,.bool t.over,.int .i64 t.code,.string t.text,.bool t.has,.string t.name,.int .i64 t.steps] 31)).heap.size=w3.heap.size+1:=sm_;have e0:=HZ4.out 0 _ rfl;have eo3:=HQ4.out 3 _ rfl;have eo4:=HQ4.out 4 _ rfl;have eo5:=HQ4.out 5 _ rfl;have eo6:=HQ4.out 6 _ rfl;have eo7:=HQ4.out 7 _ rfl;have eo8:=HQ4.out 8 _ rfl;have e35:=HZ4.out 35 _ rfl;clear hHeld;refine hK.out _ _ ?_ fun hHeld=>?_
 · ((try dsimp only);go_keep)
 clear hK K
 try simp only [qq]
 generalize (w3.alloc (.cells #[.int .i64 2,.int .i64 0,.int .i64 x.no,.int .i64 x.of.ep,.int .i64 x.of.ed,.string x.of.km.nm,.string ⟨#[]⟩,.string ⟨#[]⟩,.slice none 0 0,.int .i64 x.of.ls.length,.bool t.over,.int .i64 t.code,.string t.text,.bool t.has,.string t.name,.int .i64 t.steps] 31))=w4 at*;refine rq 4 fun K hK=>?_;go_simp;clear hHeld;refine hK.out _ _ ?_ fun hHeld=>?_
 · ((try dsimp only);go_keep)
 clear hK K
 try simp only [qq]
 refine rq 28 fun K hK=>?_;refine step_app rfl (.tmp 13) (.tmp 36) 37 rfl (B+1) 31 i0 (.agg lzA) 16 184 underlying37 hi hz0 hz1 hz2 rfl dc_ _ _ _ rfl HO4.out ⟨w3.heap.size,0,none⟩ 1 1 [.int .i64 2,.int .i64 0,.int .i64 x.no,.int .i64 x.of.ep,.int .i64 x.of.ed,.string x.of.km.nm,.string ⟨#[]⟩,.string ⟨#[]⟩,.slice none 0 0,.int .i64 x.of.ls.length,.bool t.over,.int .i64 t.code,.string t.text,.bool t.has,.string t.name,.int .i64 t.steps] rfl rfl HR4.out (by simp [Value.oneCell']) (by unfold maxLen;omega) om_ om_ ?_;intro v' w5 hown5 hgrow;have hrow:∀ k,(Value.slice ao 1 cp).ownBlock=some k->B+1<=k:=fun k hk=>(own_block HO4.out hk).1;have hOfr:∀ k,(Value.slice ao 1 cp).ownBlock=some k->k<w.heap.size:=fun k hk=>by obtain ⟨_,cur,hc⟩:=own_block HOW.out hk;exact blk_lt hc
 have hbl:∀ k,k<w4.heap.size->some k≠(Value.slice ao 1 cp).ownBlock->w5.heap[k]?=w4.heap[k]?:=fun k hk hne=>hgrow.block k hk hne;have HB5:Hid (Below B w w5):=((HBA.out.mono om_).trans (HB4.out.mono om_)).grown hgrow om_ (fun k hk=>by have:=hrow k hk;omega);have hBB:w5.heap[B]?=w4.heap[B]?:=hbl B om_ (fun e=>by have:=hrow B e.symm;omega);have hOO:w5.heap[Of]?=w4.heap[Of]?:=hbl Of om_ (fun e=>by have:=hOfr Of e.symm;have:=HOE.out;omega);have HZ5:Hid (M.BlkAt w5 B (lpL x.no x.up x.has x.of b n (.slice ao 1 cp))):=fun j v e=>(World.cell?_of_block (a:=⟨B,j,none⟩) hBB).trans (HZ4.out j v e);have HF5:Hid (M.OpnAt w5 B):=fun j=>(World.frozen?_of_block (a:=⟨B,j,none⟩) hBB).trans (HF4.out j);have HQ5:Hid (M.BlkAt w5 Of (lgL x.of b n)):=fun j v e=>(World.cell?_of_block (a:=⟨Of,j,none⟩) hOO).trans (HQ4.out j v e);obtain ⟨a5,c3,rfl⟩:=row_formN hown5;have HO5:Hid (w5.ownsRow (B+1) 31 16 (.slice a5 2 c3) 2 ((loL x.no)++[.int .i64 2,.int .i64 0,.int .i64 x.no,.int .i64 x.of.ep,.int .i64 x.of.ed,.string x.of.km.nm,.string ⟨#[]⟩,.string ⟨#[]⟩,.slice none 0 0,.int .i64 x.of.ls.length,.bool t.over,.int .i64 t.code,.string t.text,.bool t.has,.string t.name,.int .i64 t.steps])):=hown5;have g0:=HZ5.out 0 _ rfl;have go3:=HQ5.out 3 _ rfl;have go4:=HQ5.out 4 _ rfl;have go5:=HQ5.out 5 _ rfl;have go6:=HQ5.out 6 _ rfl;have go7:=HQ5.out 7 _ rfl;have go8:=HQ5.out 8 _ rfl;have g35:=HZ5.out 35 _ rfl;have gf35:=HF5.out 35;clear hgrow hown5 hbl hBB hOO hrow hOfr;clear hHeld;refine hK.out _ _ ?_ fun hHeld=>?_
 · ((try dsimp only);go_keep)
 clear hK K
 try simp only [qq]
 refine tq 29 hHeld ?_
 try simp only [qq]
 refine tq 30 hHeld ?_
 try simp only [qq]
 refine rq 31 fun K hK=>?_;go_simp;have HZ6:Hid (M.BlkAt (w5.setCell ⟨B,35,none⟩ (.slice a5 2 c3)) B (lpL x.no x.up x.has x.of b n (.slice a5 2 c3))):=HZ5.out.set 35 (.slice a5 2 c3) sm_;have HQ6:Hid (M.BlkAt (w5.setCell ⟨B,35,none⟩ (.slice a5 2 c3)) Of (lgL x.of b n)):=HQ5.out.other ⟨B,35,none⟩ _ (by show B≠Of;have:=HOE.out;omega);have k0:=HZ6.out 0 _ rfl;have ko3:=HQ6.out 3 _ rfl;have ko4:=HQ6.out 4 _ rfl;have ko5:=HQ6.out 5 _ rfl;have ko6:=HQ6.out 6 _ rfl;have ko7:=HQ6.out 7 _ rfl;have ko8:=HQ6.out 8 _ rfl;clear hHeld;refine hK.out _ _ ?_ fun hHeld=>?_
 · ((try dsimp only);go_keep)
 clear hK K
 try simp only [qq]
 refine wpAnyH_done kr_ ?_ _;clear hHeld;have HF6:Hid (M.OpnAt (w5.setCell ⟨B,35,none⟩ (.slice a5 2 c3)) B):=HF5.out.set _ _;have HO6:Hid ((w5.setCell ⟨B,35,none⟩ (.slice a5 2 c3)).ownsRow (B+1) 31 16 (.slice a5 2 c3) 2 ((loL x.no)++[.int .i64 2,.int .i64 0,.int .i64 x.no,.int .i64 x.of.ep,.int .i64 x.of.ed,.string x.of.km.nm,.string ⟨#[]⟩,.string ⟨#[]⟩,.slice none 0 0,.int .i64 x.of.ls.length,.bool t.over,.int .i64 t.code,.string t.text,.bool t.has,.string t.name,.int .i64 t.steps])):=ownsRow_setCell_below HO5.out (by show B<B+1;omega) _;have HB6:Hid (Below B w (w5.setCell ⟨B,35,none⟩ (.slice a5 2 c3))):=HB5.out.setCell (by exact Nat.le_refl B) _;go_wp2;go_ret;exact ⟨rfl,⟨_,HZ6.out,HO6.out⟩,HF6.out,HB6.out⟩
end Go.Proofs.YthjhakdpikdoeaaGreatDoor
