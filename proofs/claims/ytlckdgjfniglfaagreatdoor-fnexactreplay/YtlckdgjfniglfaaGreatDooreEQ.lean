import Derived.Test.YtlckdgjfniglfaaGreatDooreER
set_option linter.unusedVariables false
set_option maxHeartbeats 8000000
set_option maxRecDepth 100000
namespace Go.Proofs.YtlckdgjfniglfaaGreatDoor
open Proofs.Tryz
open Go.RowKit
theorem c14_clear (s:ByteArray) (w:World) (h1:1<=s.size) (h16:s.size<=16000) (hw:wordOf ((cutS 10 s.data.toList).getD 0 [])=wClear):
 Calls prog 14 #[.string s] w fun e w'=>Is4 s.data.toList w' e/\Below w.heap.size w w':=by
 have hB0:Below w.heap.size w ((w.alloc (.cells zE.toArray 47)).alloc (.cells zE.toArray 47)):=bA_.alloc sm_ _;have hsl:s.data.toList.length=s.size:=sm_;have HNE:Hid (s.data.toList≠[]):=fun h=>by rw [h] at hsl;simp at hsl;omega
 have hse:(s.toList==[])=false:=by
  rw [ByteArray.toList_eq];exact beq_eq_false_iff_ne.2 HNE.out
 have hse2:¬ s.toList=[]:=by simpa using hse
 have h16':decide (16000<(s.size:Int))=false:=so_;go_enter func14,ntmps14
 go_wp2_with fail
 refine (c29 s 10 _ om_).mono ?_;rintro e w1 ⟨⟨g2,cp,rfl,hg2,hL1⟩,hb1⟩;have hz1w:((w.alloc (.cells zE.toArray 47)).alloc (.cells zE.toArray 47)).heap.size=w.heap.size+2:=sm_;have hx1:Below (w.heap.size+2) ((w.alloc (.cells zE.toArray 47)).alloc (.cells zE.toArray 47)) w1:=hb1.mono sm_;have hg2a:w.heap.size+2<=g2:=by have h:=hg2;simp at h;omega
 have hz1:w.heap.size+2<=w1.heap.size:=by have h:=hx1.size;rw [hz1w] at h;exact h
 have bR1:BlkAt w1 w.heap.size zE:=((blk_new w zE 47).below bA_ sm_).below hx1 om_;have oR1:OpnAt w1 w.heap.size:=((opn_new w zE.toArray 47).below bA_ sm_).below hx1 om_;have bM1:BlkAt w1 (w.heap.size+1) zE:=BlkAt.below (by have h:=blk_new (w.alloc (.cells zE.toArray 47)) zE 47;simp at h;exact h) hx1 om_;have oM1:OpnAt w1 (w.heap.size+1):=OpnAt.below (by have h:=opn_new (w.alloc (.cells zE.toArray 47)) zE.toArray 47;simp at h;exact h) hx1 om_;have hB1:Below w.heap.size w w1:=hB0.trans (hx1.mono om_);have hcl:=cut_len 10 s.data.toList;have hcs:=cut_smallE 10 s.data.toList;clear hb1 hg2 hz1w hx1;obtain ⟨Ls,hLs⟩:∃ Ls,Ls=cutS 10 s.data.toList:=⟨_,rfl⟩;rw [<- hLs] at hL1 hcl hcs hw ⊢;have HLS:Hid (cutS 10 s.data.toList=Ls):=hLs.symm;have HCS:Hid (∀ k,(Ls.getD k []).length<=16000):=fun k=>Nat.le_trans (hcs k) om_;obtain ⟨F,hF⟩:∃ F,F=Ls.getD 0 []:=⟨_,rfl⟩;have HF:Hid (Ls.getD 0 []=F):=hF.symm;have hFl:F.length<=16000:=by rw [hF];exact HCS.out 0
 rw [<- hF] at hw;have hcl1:1<=Ls.length:=hcl.1;have hcl2:Ls.length<=16001:=by have:=hcl.2;omega
 have c0:w1.cell? ⟨g2,0,none⟩=some (.string (ofL F)):=by rw [hF];exact hL1.2 0 hcl1
 have hg2b:=hL1.1;clear hF hLs hcs hcl
 go_wp2_with fail
 refine (c30o F _ om_ 1 om_ om_).mono ?_;rintro e w3 ⟨⟨g3,cp3,rfl,hg3,hl3⟩,hb3⟩;have hz3:w1.heap.size<=w3.heap.size:=hb3.size;have bR:=BlkAt.below bR1 hb3 om_;have oR:=OpnAt.below oR1 hb3 om_;have bM:=BlkAt.below bM1 hb3 om_;have oM:=OpnAt.below oM1 hb3 om_;have hL3:Hid (LinesAt w3 g2 Ls):=lines_below hL1 hb3;have hB3:Below w.heap.size w w3:=bT_ hB1 hb3;have d0:w3.cell? ⟨g3,0,none⟩=some (.string (ofL (wordOf F))):=hl3.2 0 (by simp [wordsN]);have hg3b:g3<w3.heap.size:=hl3.1;have hrs:=rest_small F;have hrN:ofL (restN F 1)=ofL (restOf F):=rfl;rw [hrN];clear hrN hb3 bR1 oR1 bM1 oM1 hL1 hB1 hl3 c0 hB0;have hMz:w.heap.size+1<w3.heap.size:=om_;have hRB:w.heap.size<w.heap.size+1:=om_;have hg3M:w.heap.size+1<g3:=om_;have hg2M:w.heap.size+1<g2:=om_;have hg2z:g2<w3.heap.size:=om_;clear hg3 hg2b hg2a hz1 hz3;generalize w.heap.size+1=Bm at*;have HX:Hid (LsE s.data.toList eClear):=lsE_5 (by rw [HLS.out];exact HF.out) hw;have HW:Hid (wordOf F=wClear):=hw;have hes:ofL (wordOf F)=⟨#[99,108,101,97,114]⟩:=by rw [hw];rfl
 rw [hes] at d0;clear hw hes;have k0:=bM 0 _ rfl;have f0:=oM 0;have HM:BlkAt (w3.setCell ⟨Bm,0,none⟩ (.int .i64 5)) Bm ((eClear).c none 0):=bM.set 0 (.int .i64 5) (by show 0<10;omega);have HR:BlkAt (w3.setCell ⟨Bm,0,none⟩ (.int .i64 5)) w.heap.size zE:=bR.other _ _ (by show Bm≠w.heap.size;omega);have HO:OpnAt (w3.setCell ⟨Bm,0,none⟩ (.int .i64 5)) w.heap.size:=oR.set _ _;have hBU:Below w.heap.size w (w3.setCell ⟨Bm,0,none⟩ (.int .i64 5)):=hB3.setCell (by show w.heap.size<=Bm;omega) _;have hMU:Bm<(w3.setCell ⟨Bm,0,none⟩ (.int .i64 5)).heap.size:=so_;have hRU:w.heap.size<(w3.setCell ⟨Bm,0,none⟩ (.int .i64 5)).heap.size:=so_;have HLK:LksAt (w3.setCell ⟨Bm,0,none⟩ (.int .i64 5)) none (eClear).ls:=.inl rfl;have hle:(eClear).le 1048576:=⟨Nat.zero_le _,Nat.zero_le _,⟨Nat.zero_le _,Nat.zero_le _,Nat.zero_le _⟩,⟨Nat.zero_le _,fun _=>⟨Nat.zero_le _,Nat.zero_le _⟩⟩,Nat.zero_le _⟩;have hAne:∀ g o,(none:Option Addr)=some ⟨g,o,none⟩->g≠w.heap.size:=fun _ _ h=>by cases h
 clear bM oM bR oR hB3
 go_wp2_with (refine wpList_load_blkW (by rfl) 47 (.tmp 4) rfl Bm rfl ((eClear).c none 0) _ HM underlying47 rfl kr_ ?_)
 refine (c35 (eClear) none 0 _ hle HLK).mono ?_;rintro e U1 ⟨⟨str,rfl,hT⟩,hbU⟩;have HM1:=BlkAt.below HM hbU hMU;have HR1:=BlkAt.below HR hbU hRU;have HO1:=OpnAt.below HO hbU hRU;have hB1:Below w.heap.size w U1:=bT_ hBU hbU;have HLK1:=lks_below HLK hbU;clear HM HR HO HLK hBU hbU;by_cases he:str.data.toList=s.data.toList
 · have HN:Hid (RES s.data.toList (eClear) true):=res_yes HX.out hT HNE.out he
   have e2:str.toList=s.toList:=by rw [ByteArray.toList_eq,ByteArray.toList_eq];exact he
   have e1:(str.toList==s.toList)=true:=by simpa using e2
   clear hT HX he
   go_wp2_with (first | refine wpList_load_blk rfl 47 (.tmp 4) rfl Bm rfl ((eClear).c none 0) _ HM1 underlying47 rfl kr_ ?_ | refine wpList_store_blk rfl 47 (.tmp 2) (.tmp 123) rfl w.heap.size 0 rfl ((eClear).c none 0) rfl (blk_someE HR1 _ rfl) HO1 (N10.c_one _ _ _) kr_ rfl ?_)
   exact fin4 (eClear) none 0 true HN.out (fun h=>by cases h) hle (lks_filo _ HLK1 hAne) rfl rfl rfl HR1 hB1
 · have HN:Hid (RES s.data.toList n10z false):=res_no HX.out hT he
   have e2:¬ str.toList=s.toList:=by rw [ByteArray.toList_eq,ByteArray.toList_eq];exact he
   have e1:(str.toList==s.toList)=false:=by simpa using e2
   clear hT HX he
   go_wp2_with (refine wpList_store_blk rfl 47 (.tmp 2) (.tmp 122) rfl w.heap.size 0 rfl zE rfl (blk_someE HR1 zE rfl) HO1 (by simp [zE,Value.oneCell']) kr_ rfl ?_)
   exact fin4_no HN.out rfl rfl rfl HR1 hB1
theorem c14_drop (s:ByteArray) (w:World) (h1:1<=s.size) (h16:s.size<=16000) (hw:wordOf ((cutS 10 s.data.toList).getD 0 [])=wDrop):
 Calls prog 14 #[.string s] w fun e w'=>Is4 s.data.toList w' e/\Below w.heap.size w w':=by
 have hB0:Below w.heap.size w ((w.alloc (.cells zE.toArray 47)).alloc (.cells zE.toArray 47)):=bA_.alloc sm_ _;have hsl:s.data.toList.length=s.size:=sm_;have HNE:Hid (s.data.toList≠[]):=fun h=>by rw [h] at hsl;simp at hsl;omega
 have hse:(s.toList==[])=false:=by
  rw [ByteArray.toList_eq];exact beq_eq_false_iff_ne.2 HNE.out
 have hse2:¬ s.toList=[]:=by simpa using hse
 have h16':decide (16000<(s.size:Int))=false:=so_;go_enter func14,ntmps14
 go_wp2_with fail
 refine (c29 s 10 _ om_).mono ?_;rintro e w1 ⟨⟨g2,cp,rfl,hg2,hL1⟩,hb1⟩;have hz1w:((w.alloc (.cells zE.toArray 47)).alloc (.cells zE.toArray 47)).heap.size=w.heap.size+2:=sm_;have hx1:Below (w.heap.size+2) ((w.alloc (.cells zE.toArray 47)).alloc (.cells zE.toArray 47)) w1:=hb1.mono sm_;have hg2a:w.heap.size+2<=g2:=by have h:=hg2;simp at h;omega
 have hz1:w.heap.size+2<=w1.heap.size:=by have h:=hx1.size;rw [hz1w] at h;exact h
 have bR1:BlkAt w1 w.heap.size zE:=((blk_new w zE 47).below bA_ sm_).below hx1 om_;have oR1:OpnAt w1 w.heap.size:=((opn_new w zE.toArray 47).below bA_ sm_).below hx1 om_;have bM1:BlkAt w1 (w.heap.size+1) zE:=BlkAt.below (by have h:=blk_new (w.alloc (.cells zE.toArray 47)) zE 47;simp at h;exact h) hx1 om_;have oM1:OpnAt w1 (w.heap.size+1):=OpnAt.below (by have h:=opn_new (w.alloc (.cells zE.toArray 47)) zE.toArray 47;simp at h;exact h) hx1 om_;have hB1:Below w.heap.size w w1:=hB0.trans (hx1.mono om_);have hcl:=cut_len 10 s.data.toList;have hcs:=cut_smallE 10 s.data.toList;clear hb1 hg2 hz1w hx1;obtain ⟨Ls,hLs⟩:∃ Ls,Ls=cutS 10 s.data.toList:=⟨_,rfl⟩;rw [<- hLs] at hL1 hcl hcs hw ⊢;have HLS:Hid (cutS 10 s.data.toList=Ls):=hLs.symm;have HCS:Hid (∀ k,(Ls.getD k []).length<=16000):=fun k=>Nat.le_trans (hcs k) om_;obtain ⟨F,hF⟩:∃ F,F=Ls.getD 0 []:=⟨_,rfl⟩;have HF:Hid (Ls.getD 0 []=F):=hF.symm;have hFl:F.length<=16000:=by rw [hF];exact HCS.out 0
 rw [<- hF] at hw;have hcl1:1<=Ls.length:=hcl.1;have hcl2:Ls.length<=16001:=by have:=hcl.2;omega
 have c0:w1.cell? ⟨g2,0,none⟩=some (.string (ofL F)):=by rw [hF];exact hL1.2 0 hcl1
 have hg2b:=hL1.1;clear hF hLs hcs hcl
 go_wp2_with fail
 refine (c30o F _ om_ 1 om_ om_).mono ?_;rintro e w3 ⟨⟨g3,cp3,rfl,hg3,hl3⟩,hb3⟩;have hz3:w1.heap.size<=w3.heap.size:=hb3.size;have bR:=BlkAt.below bR1 hb3 om_;have oR:=OpnAt.below oR1 hb3 om_;have bM:=BlkAt.below bM1 hb3 om_;have oM:=OpnAt.below oM1 hb3 om_;have hL3:Hid (LinesAt w3 g2 Ls):=lines_below hL1 hb3;have hB3:Below w.heap.size w w3:=bT_ hB1 hb3;have d0:w3.cell? ⟨g3,0,none⟩=some (.string (ofL (wordOf F))):=hl3.2 0 (by simp [wordsN]);have hg3b:g3<w3.heap.size:=hl3.1;have hrs:=rest_small F;have hrN:ofL (restN F 1)=ofL (restOf F):=rfl;rw [hrN];clear hrN hb3 bR1 oR1 bM1 oM1 hL1 hB1 hl3 c0 hB0;have hMz:w.heap.size+1<w3.heap.size:=om_;have hRB:w.heap.size<w.heap.size+1:=om_;have hg3M:w.heap.size+1<g3:=om_;have hg2M:w.heap.size+1<g2:=om_;have hg2z:g2<w3.heap.size:=om_;clear hg3 hg2b hg2a hz1 hz3;generalize w.heap.size+1=Bm at*;have HX:Hid (LsE s.data.toList (eDrop (ofL (restOf F)))):=lsE_3 (by rw [HLS.out];exact HF.out) hw;have HW:Hid (wordOf F=wDrop):=hw;have hes:ofL (wordOf F)=⟨#[100,114,111,112]⟩:=by rw [hw];rfl
 rw [hes] at d0;clear hw hes;have k0:=bM 0 _ rfl;have f0:=oM 0;have k2:=bM 2 _ rfl;have f2:=oM 2;have HM:BlkAt ((w3.setCell ⟨Bm,0,none⟩ (.int .i64 3)).setCell ⟨Bm,2,none⟩ (.string (ofL (restOf F)))) Bm ((eDrop (ofL (restOf F))).c none 0):=(bM.set 0 (.int .i64 3) (by show 0<10;omega)).set 2 (.string (ofL (restOf F))) (by show 2<10;omega);have HR:BlkAt ((w3.setCell ⟨Bm,0,none⟩ (.int .i64 3)).setCell ⟨Bm,2,none⟩ (.string (ofL (restOf F)))) w.heap.size zE:=(bR.other _ _ (by show Bm≠w.heap.size;omega)).other _ _ (by show Bm≠w.heap.size;omega);have HO:OpnAt ((w3.setCell ⟨Bm,0,none⟩ (.int .i64 3)).setCell ⟨Bm,2,none⟩ (.string (ofL (restOf F)))) w.heap.size:=(oR.set _ _).set _ _;have hBU:Below w.heap.size w ((w3.setCell ⟨Bm,0,none⟩ (.int .i64 3)).setCell ⟨Bm,2,none⟩ (.string (ofL (restOf F)))):=(hB3.setCell (by show w.heap.size<=Bm;omega) _).setCell (by show w.heap.size<=Bm;omega) _;have hMU:Bm<((w3.setCell ⟨Bm,0,none⟩ (.int .i64 3)).setCell ⟨Bm,2,none⟩ (.string (ofL (restOf F)))).heap.size:=so_;have hRU:w.heap.size<((w3.setCell ⟨Bm,0,none⟩ (.int .i64 3)).setCell ⟨Bm,2,none⟩ (.string (ofL (restOf F)))).heap.size:=so_;have HLK:LksAt ((w3.setCell ⟨Bm,0,none⟩ (.int .i64 3)).setCell ⟨Bm,2,none⟩ (.string (ofL (restOf F)))) none (eDrop (ofL (restOf F))).ls:=.inl rfl;have hle:(eDrop (ofL (restOf F))).le 1048576:=⟨by show (ofL (restOf F)).size<=1048576;rw [ofL_size];omega,Nat.zero_le _,⟨Nat.zero_le _,Nat.zero_le _,Nat.zero_le _⟩,⟨Nat.zero_le _,fun _=>⟨Nat.zero_le _,Nat.zero_le _⟩⟩,Nat.zero_le _⟩;have hAne:∀ g o,(none:Option Addr)=some ⟨g,o,none⟩->g≠w.heap.size:=fun _ _ h=>by cases h
 clear bM oM bR oR hB3;generalize ofL (restOf F)=rF at*
 go_wp2_with (refine wpList_load_blkW (by rfl) 47 (.tmp 4) rfl Bm rfl ((eDrop rF).c none 0) _ HM underlying47 rfl kr_ ?_)
 refine (c35 (eDrop rF) none 0 _ hle HLK).mono ?_;rintro e U1 ⟨⟨str,rfl,hT⟩,hbU⟩;have HM1:=BlkAt.below HM hbU hMU;have HR1:=BlkAt.below HR hbU hRU;have HO1:=OpnAt.below HO hbU hRU;have hB1:Below w.heap.size w U1:=bT_ hBU hbU;have HLK1:=lks_below HLK hbU;clear HM HR HO HLK hBU hbU;by_cases he:str.data.toList=s.data.toList
 · have HN:Hid (RES s.data.toList (eDrop rF) true):=res_yes HX.out hT HNE.out he
   have e2:str.toList=s.toList:=by rw [ByteArray.toList_eq,ByteArray.toList_eq];exact he
   have e1:(str.toList==s.toList)=true:=by simpa using e2
   clear hT HX he
   go_wp2_with (first | refine wpList_load_blk rfl 47 (.tmp 4) rfl Bm rfl ((eDrop rF).c none 0) _ HM1 underlying47 rfl kr_ ?_ | refine wpList_store_blk rfl 47 (.tmp 2) (.tmp 123) rfl w.heap.size 0 rfl ((eDrop rF).c none 0) rfl (blk_someE HR1 _ rfl) HO1 (N10.c_one _ _ _) kr_ rfl ?_)
   exact fin4 (eDrop rF) none 0 true HN.out (fun h=>by cases h) hle (lks_filo _ HLK1 hAne) rfl rfl rfl HR1 hB1
 · have HN:Hid (RES s.data.toList n10z false):=res_no HX.out hT he
   have e2:¬ str.toList=s.toList:=by rw [ByteArray.toList_eq,ByteArray.toList_eq];exact he
   have e1:(str.toList==s.toList)=false:=by simpa using e2
   clear hT HX he
   go_wp2_with (refine wpList_store_blk rfl 47 (.tmp 2) (.tmp 122) rfl w.heap.size 0 rfl zE rfl (blk_someE HR1 zE rfl) HO1 (by simp [zE,Value.oneCell']) kr_ rfl ?_)
   exact fin4_no HN.out rfl rfl rfl HR1 hB1
theorem c14_epoch (s:ByteArray) (w:World) (h1:1<=s.size) (h16:s.size<=16000) (hw:wordOf ((cutS 10 s.data.toList).getD 0 [])=wEpoch):
 Calls prog 14 #[.string s] w fun e w'=>Is4 s.data.toList w' e/\Below w.heap.size w w':=by
 have hB0:Below w.heap.size w ((w.alloc (.cells zE.toArray 47)).alloc (.cells zE.toArray 47)):=bA_.alloc sm_ _;have hsl:s.data.toList.length=s.size:=sm_;have HNE:Hid (s.data.toList≠[]):=fun h=>by rw [h] at hsl;simp at hsl;omega
 have hse:(s.toList==[])=false:=by
  rw [ByteArray.toList_eq];exact beq_eq_false_iff_ne.2 HNE.out
 have hse2:¬ s.toList=[]:=by simpa using hse
 have h16':decide (16000<(s.size:Int))=false:=so_;go_enter func14,ntmps14
 go_wp2_with fail
 refine (c29 s 10 _ om_).mono ?_;rintro e w1 ⟨⟨g2,cp,rfl,hg2,hL1⟩,hb1⟩;have hz1w:((w.alloc (.cells zE.toArray 47)).alloc (.cells zE.toArray 47)).heap.size=w.heap.size+2:=sm_;have hx1:Below (w.heap.size+2) ((w.alloc (.cells zE.toArray 47)).alloc (.cells zE.toArray 47)) w1:=hb1.mono sm_;have hg2a:w.heap.size+2<=g2:=by have h:=hg2;simp at h;omega
 have hz1:w.heap.size+2<=w1.heap.size:=by have h:=hx1.size;rw [hz1w] at h;exact h
 have bR1:BlkAt w1 w.heap.size zE:=((blk_new w zE 47).below bA_ sm_).below hx1 om_;have oR1:OpnAt w1 w.heap.size:=((opn_new w zE.toArray 47).below bA_ sm_).below hx1 om_;have bM1:BlkAt w1 (w.heap.size+1) zE:=BlkAt.below (by have h:=blk_new (w.alloc (.cells zE.toArray 47)) zE 47;simp at h;exact h) hx1 om_;have oM1:OpnAt w1 (w.heap.size+1):=OpnAt.below (by have h:=opn_new (w.alloc (.cells zE.toArray 47)) zE.toArray 47;simp at h;exact h) hx1 om_;have hB1:Below w.heap.size w w1:=hB0.trans (hx1.mono om_);have hcl:=cut_len 10 s.data.toList;have hcs:=cut_smallE 10 s.data.toList;clear hb1 hg2 hz1w hx1;obtain ⟨Ls,hLs⟩:∃ Ls,Ls=cutS 10 s.data.toList:=⟨_,rfl⟩;rw [<- hLs] at hL1 hcl hcs hw ⊢;have HLS:Hid (cutS 10 s.data.toList=Ls):=hLs.symm;have HCS:Hid (∀ k,(Ls.getD k []).length<=16000):=fun k=>Nat.le_trans (hcs k) om_;obtain ⟨F,hF⟩:∃ F,F=Ls.getD 0 []:=⟨_,rfl⟩;have HF:Hid (Ls.getD 0 []=F):=hF.symm;have hFl:F.length<=16000:=by rw [hF];exact HCS.out 0
 rw [<- hF] at hw;have hcl1:1<=Ls.length:=hcl.1;have hcl2:Ls.length<=16001:=by have:=hcl.2;omega
 have c0:w1.cell? ⟨g2,0,none⟩=some (.string (ofL F)):=by rw [hF];exact hL1.2 0 hcl1
 have hg2b:=hL1.1;clear hF hLs hcs hcl
 go_wp2_with fail
 refine (c30o F _ om_ 1 om_ om_).mono ?_;rintro e w3 ⟨⟨g3,cp3,rfl,hg3,hl3⟩,hb3⟩;have hz3:w1.heap.size<=w3.heap.size:=hb3.size;have bR:=BlkAt.below bR1 hb3 om_;have oR:=OpnAt.below oR1 hb3 om_;have bM:=BlkAt.below bM1 hb3 om_;have oM:=OpnAt.below oM1 hb3 om_;have hL3:Hid (LinesAt w3 g2 Ls):=lines_below hL1 hb3;have hB3:Below w.heap.size w w3:=bT_ hB1 hb3;have d0:w3.cell? ⟨g3,0,none⟩=some (.string (ofL (wordOf F))):=hl3.2 0 (by simp [wordsN]);have hg3b:g3<w3.heap.size:=hl3.1;have hrs:=rest_small F;have hrN:ofL (restN F 1)=ofL (restOf F):=rfl;rw [hrN];clear hrN hb3 bR1 oR1 bM1 oM1 hL1 hB1 hl3 c0 hB0;have hMz:w.heap.size+1<w3.heap.size:=om_;have hRB:w.heap.size<w.heap.size+1:=om_;have hg3M:w.heap.size+1<g3:=om_;have hg2M:w.heap.size+1<g2:=om_;have hg2z:g2<w3.heap.size:=om_;clear hg3 hg2b hg2a hz1 hz3;generalize w.heap.size+1=Bm at*;have HX:Hid (LsE s.data.toList (eEpoch (n29 (restOf F)))):=lsE_1 (by rw [HLS.out];exact HF.out) hw;have HW:Hid (wordOf F=wEpoch):=hw;have hes:ofL (wordOf F)=⟨#[101,112,111,99,104]⟩:=by rw [hw];rfl
 rw [hes] at d0;clear hw hes;have k0:=bM 0 _ rfl;have f0:=oM 0
 go_wp2_with fail
 refine (c31 (ofL (restOf F)) _ (by rw [ofL_size];omega)).mono ?_;rintro e w4 ⟨rfl,hb4⟩;rw [ofL_listE];have hzs:(w3.setCell ⟨Bm,0,none⟩ (.int .i64 1)).heap.size=w3.heap.size:=sm_;have hz4:w3.heap.size<=w4.heap.size:=by have h:=hb4.size;rw [hzs] at h;exact h
 have bM4:=BlkAt.below (bM.set 0 (.int .i64 1) (by show 0<10;omega)) hb4 (by rw [hzs];exact hMz);have oM4:=OpnAt.below (oM.set ⟨Bm,0,none⟩ (.int .i64 1)) hb4 (by rw [hzs];exact hMz);have bR4:=BlkAt.below (bR.other ⟨Bm,0,none⟩ (.int .i64 1) (by show Bm≠w.heap.size;omega)) hb4 (by rw [hzs];omega);have oR4:=OpnAt.below (oR.set ⟨Bm,0,none⟩ (.int .i64 1)) hb4 (by rw [hzs];omega);have hB4:Below w.heap.size w w4:=(hB3.setCell (by show w.heap.size<=Bm;omega) _).trans (hb4.mono (by rw [hzs];omega));have k1:=bM4 1 _ rfl;have f1:=oM4 1;have HM:BlkAt (w4.setCell ⟨Bm,1,none⟩ (.int .i64 (n29 (restOf F)))) Bm ((eEpoch (n29 (restOf F))).c none 0):=bM4.set 1 (.int .i64 (n29 (restOf F))) (by show 1<10;omega);have HR:BlkAt (w4.setCell ⟨Bm,1,none⟩ (.int .i64 (n29 (restOf F)))) w.heap.size zE:=bR4.other _ _ (by show Bm≠w.heap.size;omega);have HO:OpnAt (w4.setCell ⟨Bm,1,none⟩ (.int .i64 (n29 (restOf F)))) w.heap.size:=oR4.set _ _;have hBU:Below w.heap.size w (w4.setCell ⟨Bm,1,none⟩ (.int .i64 (n29 (restOf F)))):=hB4.setCell (by show w.heap.size<=Bm;omega) _;have hMU:Bm<(w4.setCell ⟨Bm,1,none⟩ (.int .i64 (n29 (restOf F)))).heap.size:=so_;have hRU:w.heap.size<(w4.setCell ⟨Bm,1,none⟩ (.int .i64 (n29 (restOf F)))).heap.size:=so_;have HLK:LksAt (w4.setCell ⟨Bm,1,none⟩ (.int .i64 (n29 (restOf F)))) none (eEpoch (n29 (restOf F))).ls:=.inl rfl;have hle:(eEpoch (n29 (restOf F))).le 1048576:=⟨Nat.zero_le _,Nat.zero_le _,⟨Nat.zero_le _,Nat.zero_le _,Nat.zero_le _⟩,⟨Nat.zero_le _,fun _=>⟨Nat.zero_le _,Nat.zero_le _⟩⟩,Nat.zero_le _⟩;have hAne:∀ g o,(none:Option Addr)=some ⟨g,o,none⟩->g≠w.heap.size:=fun _ _ h=>by cases h
 clear hb4 hzs bM oM bR oR hB3 bM4 oM4 bR4 oR4 hB4;generalize n29 (restOf F)=nF at*
 go_wp2_with (refine wpList_load_blkW (by rfl) 47 (.tmp 4) rfl Bm rfl ((eEpoch nF).c none 0) _ HM underlying47 rfl kr_ ?_)
 refine (c35 (eEpoch nF) none 0 _ hle HLK).mono ?_;rintro e U1 ⟨⟨str,rfl,hT⟩,hbU⟩;have HM1:=BlkAt.below HM hbU hMU;have HR1:=BlkAt.below HR hbU hRU;have HO1:=OpnAt.below HO hbU hRU;have hB1:Below w.heap.size w U1:=bT_ hBU hbU;have HLK1:=lks_below HLK hbU;clear HM HR HO HLK hBU hbU;by_cases he:str.data.toList=s.data.toList
 · have HN:Hid (RES s.data.toList (eEpoch nF) true):=res_yes HX.out hT HNE.out he
   have e2:str.toList=s.toList:=by rw [ByteArray.toList_eq,ByteArray.toList_eq];exact he
   have e1:(str.toList==s.toList)=true:=by simpa using e2
   clear hT HX he
   go_wp2_with (first | refine wpList_load_blk rfl 47 (.tmp 4) rfl Bm rfl ((eEpoch nF).c none 0) _ HM1 underlying47 rfl kr_ ?_ | refine wpList_store_blk rfl 47 (.tmp 2) (.tmp 123) rfl w.heap.size 0 rfl ((eEpoch nF).c none 0) rfl (blk_someE HR1 _ rfl) HO1 (N10.c_one _ _ _) kr_ rfl ?_)
   exact fin4 (eEpoch nF) none 0 true HN.out (fun h=>by cases h) hle (lks_filo _ HLK1 hAne) rfl rfl rfl HR1 hB1
 · have HN:Hid (RES s.data.toList n10z false):=res_no HX.out hT he
   have e2:¬ str.toList=s.toList:=by rw [ByteArray.toList_eq,ByteArray.toList_eq];exact he
   have e1:(str.toList==s.toList)=false:=by simpa using e2
   clear hT HX he
   go_wp2_with (refine wpList_store_blk rfl 47 (.tmp 2) (.tmp 122) rfl w.heap.size 0 rfl zE rfl (blk_someE HR1 zE rfl) HO1 (by simp [zE,Value.oneCell']) kr_ rfl ?_)
   exact fin4_no HN.out rfl rfl rfl HR1 hB1
end Go.Proofs.YtlckdgjfniglfaaGreatDoor
