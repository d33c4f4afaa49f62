import Derived.Test.YtlckdgjfniglfaaGreatDooreER
set_option linter.unusedVariables false
set_option maxHeartbeats 8000000
set_option maxRecDepth 100000
namespace Go.Proofs.YtlckdgjfniglfaaGreatDoor
open Proofs.Tryz
open Go.RowKit
theorem c14_none (s:ByteArray) (w:World) (h1:1<=s.size) (h16:s.size<=16000) (hw:wordOf ((cutS 10 s.data.toList).getD 0 [])≠wRan/\wordOf ((cutS 10 s.data.toList).getD 0 [])≠wEpoch/\wordOf ((cutS 10 s.data.toList).getD 0 [])≠wFile/\wordOf ((cutS 10 s.data.toList).getD 0 [])≠wDrop/\wordOf ((cutS 10 s.data.toList).getD 0 [])≠wClear):
 Calls prog 14 #[.string s] w fun e w'=>Is4 s.data.toList w' e/\Below w.heap.size w w':=by
 have hB0:Below w.heap.size w ((w.alloc (.cells zE.toArray 47)).alloc (.cells zE.toArray 47)):=bA_.alloc sm_ _;have hsl:s.data.toList.length=s.size:=sm_;have HNE:Hid (s.data.toList≠[]):=fun h=>by rw [h] at hsl;simp at hsl;omega
 have hse:(s.toList==[])=false:=by
  rw [ByteArray.toList_eq];exact beq_eq_false_iff_ne.2 HNE.out
 have hse2:¬ s.toList=[]:=by simpa using hse
 have h16':decide (16000<(s.size:Int))=false:=so_;go_enter func14,ntmps14
 go_wp2_with fail
 refine (c29 s 10 _ om_).mono ?_;rintro e w1 ⟨⟨g2,cp,rfl,hg2,hL1⟩,hb1⟩;have hz1w:((w.alloc (.cells zE.toArray 47)).alloc (.cells zE.toArray 47)).heap.size=w.heap.size+2:=sm_;have hx1:Below (w.heap.size+2) ((w.alloc (.cells zE.toArray 47)).alloc (.cells zE.toArray 47)) w1:=hb1.mono sm_;have hg2a:w.heap.size+2<=g2:=by have h:=hg2;simp at h;omega
 have hz1:w.heap.size+2<=w1.heap.size:=by have h:=hx1.size;rw [hz1w] at h;exact h
 have bR1:BlkAt w1 w.heap.size zE:=((blk_new w zE 47).below bA_ sm_).below hx1 om_;have oR1:OpnAt w1 w.heap.size:=((opn_new w zE.toArray 47).below bA_ sm_).below hx1 om_;have bM1:BlkAt w1 (w.heap.size+1) zE:=BlkAt.below (by have h:=blk_new (w.alloc (.cells zE.toArray 47)) zE 47;simp at h;exact h) hx1 om_;have oM1:OpnAt w1 (w.heap.size+1):=OpnAt.below (by have h:=opn_new (w.alloc (.cells zE.toArray 47)) zE.toArray 47;simp at h;exact h) hx1 om_;have hB1:Below w.heap.size w w1:=hB0.trans (hx1.mono om_);have hcl:=cut_len 10 s.data.toList;have hcs:=cut_smallE 10 s.data.toList;clear hb1 hg2 hz1w hx1;obtain ⟨Ls,hLs⟩:∃ Ls,Ls=cutS 10 s.data.toList:=⟨_,rfl⟩;rw [<- hLs] at hL1 hcl hcs hw ⊢;have HLS:Hid (cutS 10 s.data.toList=Ls):=hLs.symm;have HCS:Hid (∀ k,(Ls.getD k []).length<=16000):=fun k=>Nat.le_trans (hcs k) om_;obtain ⟨F,hF⟩:∃ F,F=Ls.getD 0 []:=⟨_,rfl⟩;have HF:Hid (Ls.getD 0 []=F):=hF.symm;have hFl:F.length<=16000:=by rw [hF];exact HCS.out 0
 rw [<- hF] at hw;have hcl1:1<=Ls.length:=hcl.1;have hcl2:Ls.length<=16001:=by have:=hcl.2;omega
 have c0:w1.cell? ⟨g2,0,none⟩=some (.string (ofL F)):=by rw [hF];exact hL1.2 0 hcl1
 have hg2b:=hL1.1;clear hF hLs hcs hcl
 go_wp2_with fail
 refine (c30o F _ om_ 1 om_ om_).mono ?_;rintro e w3 ⟨⟨g3,cp3,rfl,hg3,hl3⟩,hb3⟩;have hz3:w1.heap.size<=w3.heap.size:=hb3.size;have bR:=BlkAt.below bR1 hb3 om_;have oR:=OpnAt.below oR1 hb3 om_;have bM:=BlkAt.below bM1 hb3 om_;have oM:=OpnAt.below oM1 hb3 om_;have hL3:Hid (LinesAt w3 g2 Ls):=lines_below hL1 hb3;have hB3:Below w.heap.size w w3:=bT_ hB1 hb3;have d0:w3.cell? ⟨g3,0,none⟩=some (.string (ofL (wordOf F))):=hl3.2 0 (by simp [wordsN]);have hg3b:g3<w3.heap.size:=hl3.1;have hrs:=rest_small F;have hrN:ofL (restN F 1)=ofL (restOf F):=rfl;rw [hrN];clear hrN hb3 bR1 oR1 bM1 oM1 hL1 hB1 hl3 c0 hB0;have hMz:w.heap.size+1<w3.heap.size:=om_;have hRB:w.heap.size<w.heap.size+1:=om_;have hg3M:w.heap.size+1<g3:=om_;have hg2M:w.heap.size+1<g2:=om_;have hg2z:g2<w3.heap.size:=om_;clear hg3 hg2b hg2a hz1 hz3;generalize w.heap.size+1=Bm at*;have HX:Hid (LsE s.data.toList n10z):=lsE_none _ (by rw [HLS.out,HF.out];exact hw.1) (by rw [HLS.out,HF.out];exact hw.2.1) (by rw [HLS.out,HF.out];exact hw.2.2.1) (by rw [HLS.out,HF.out];exact hw.2.2.2.1) (by rw [HLS.out,HF.out];exact hw.2.2.2.2);have n4:((ofL (wordOf F)).toList==[114,97,110])=false:=by
  rw [ByteArray.toList_eq,ofL_listE];exact beq_eq_false_iff_ne.2 hw.1
 have m4:¬ (ofL (wordOf F)).toList=[114,97,110]:=by simpa using n4
 have n1:((ofL (wordOf F)).toList==[101,112,111,99,104])=false:=by
  rw [ByteArray.toList_eq,ofL_listE];exact beq_eq_false_iff_ne.2 hw.2.1
 have m1:¬ (ofL (wordOf F)).toList=[101,112,111,99,104]:=by simpa using n1
 have n2:((ofL (wordOf F)).toList==[102,105,108,101])=false:=by
  rw [ByteArray.toList_eq,ofL_listE];exact beq_eq_false_iff_ne.2 hw.2.2.1
 have m2:¬ (ofL (wordOf F)).toList=[102,105,108,101]:=by simpa using n2
 have n3:((ofL (wordOf F)).toList==[100,114,111,112])=false:=by
  rw [ByteArray.toList_eq,ofL_listE];exact beq_eq_false_iff_ne.2 hw.2.2.2.1
 have m3:¬ (ofL (wordOf F)).toList=[100,114,111,112]:=by simpa using n3
 have n5:((ofL (wordOf F)).toList==[99,108,101,97,114])=false:=by
  rw [ByteArray.toList_eq,ofL_listE];exact beq_eq_false_iff_ne.2 hw.2.2.2.2
 have m5:¬ (ofL (wordOf F)).toList=[99,108,101,97,114]:=by simpa using n5
 clear hw;have HM:BlkAt w3 Bm (n10z.c none 0):=bM;have HR:=bR;have HO:=oR;have hBU:=hB3;have hMU:=hMz;have hRU:w.heap.size<w3.heap.size:=om_;have HLK:LksAt w3 none n10z.ls:=.inl rfl;have hle:=n10z_le;have hAne:∀ g o,(none:Option Addr)=some ⟨g,o,none⟩->g≠w.heap.size:=fun _ _ h=>by cases h
 generalize ofL (wordOf F)=wd at*
 go_wp2_with (refine wpList_load_blkW (by rfl) 47 (.tmp 4) rfl Bm rfl ((n10z).c none 0) _ HM underlying47 rfl kr_ ?_)
 refine (c35 (n10z) none 0 _ hle HLK).mono ?_;rintro e U1 ⟨⟨str,rfl,hT⟩,hbU⟩;have HM1:=BlkAt.below HM hbU hMU;have HR1:=BlkAt.below HR hbU hRU;have HO1:=OpnAt.below HO hbU hRU;have hB1:Below w.heap.size w U1:=bT_ hBU hbU;have HLK1:=lks_below HLK hbU;clear HM HR HO HLK hBU hbU;by_cases he:str.data.toList=s.data.toList
 · have HN:Hid (RES s.data.toList (n10z) true):=res_yes HX.out hT HNE.out he
   have e2:str.toList=s.toList:=by rw [ByteArray.toList_eq,ByteArray.toList_eq];exact he
   have e1:(str.toList==s.toList)=true:=by simpa using e2
   clear hT HX he
   go_wp2_with (first | refine wpList_load_blk rfl 47 (.tmp 4) rfl Bm rfl ((n10z).c none 0) _ HM1 underlying47 rfl kr_ ?_ | refine wpList_store_blk rfl 47 (.tmp 2) (.tmp 123) rfl w.heap.size 0 rfl ((n10z).c none 0) rfl (blk_someE HR1 _ rfl) HO1 (N10.c_one _ _ _) kr_ rfl ?_)
   exact fin4 (n10z) none 0 true HN.out (fun h=>by cases h) hle (lks_filo _ HLK1 hAne) rfl rfl rfl HR1 hB1
 · have HN:Hid (RES s.data.toList n10z false):=res_no HX.out hT he
   have e2:¬ str.toList=s.toList:=by rw [ByteArray.toList_eq,ByteArray.toList_eq];exact he
   have e1:(str.toList==s.toList)=false:=by simpa using e2
   clear hT HX he
   go_wp2_with (refine wpList_store_blk rfl 47 (.tmp 2) (.tmp 122) rfl w.heap.size 0 rfl zE rfl (blk_someE HR1 zE rfl) HO1 (by simp [zE,Value.oneCell']) kr_ rfl ?_)
   exact fin4_no HN.out rfl rfl rfl HR1 hB1
theorem c14_empty (w:World):
 Calls prog 14 #[.string ⟨#[]⟩] w fun e w'=>Is4 [] w' e/\Below w.heap.size w w':=by
 have hB0:Below w.heap.size w ((w.alloc (.cells zE.toArray 47)).alloc (.cells zE.toArray 47)):=bA_.alloc sm_ _;go_enter func14,ntmps14
 go_wp2_with fail
 refine (c29 ⟨#[]⟩ 10 _ dc_).mono ?_;rintro e w1 ⟨⟨g2,cp,rfl,hg2,hL1⟩,hb1⟩;have hz1w:((w.alloc (.cells zE.toArray 47)).alloc (.cells zE.toArray 47)).heap.size=w.heap.size+2:=sm_;have hx1:Below (w.heap.size+2) ((w.alloc (.cells zE.toArray 47)).alloc (.cells zE.toArray 47)) w1:=hb1.mono sm_;have hg2a:w.heap.size+2<=g2:=by have h:=hg2;simp at h;omega
 have hz1:w.heap.size+2<=w1.heap.size:=by have h:=hx1.size;rw [hz1w] at h;exact h
 have bR1:BlkAt w1 w.heap.size zE:=((blk_new w zE 47).below bA_ sm_).below hx1 om_;have oR1:OpnAt w1 w.heap.size:=((opn_new w zE.toArray 47).below bA_ sm_).below hx1 om_;have bM1:BlkAt w1 (w.heap.size+1) zE:=BlkAt.below (by have h:=blk_new (w.alloc (.cells zE.toArray 47)) zE 47;simp at h;exact h) hx1 om_;have oM1:OpnAt w1 (w.heap.size+1):=OpnAt.below (by have h:=opn_new (w.alloc (.cells zE.toArray 47)) zE.toArray 47;simp at h;exact h) hx1 om_;have hB1:Below w.heap.size w w1:=hB0.trans (hx1.mono om_);have hcl:=cut_len 10 ([]:List UInt8);have hcs:=cut_smallE 10 ([]:List UInt8);clear hb1 hg2 hz1w hx1;obtain ⟨Ls,hLs⟩:∃ Ls,Ls=cutS 10 ([]:List UInt8):=⟨_,rfl⟩;rw [<- hLs] at hL1 hcl hcs ⊢;have HLS:Hid (cutS 10 ([]:List UInt8)=Ls):=hLs.symm;have HCS:Hid (∀ k,(Ls.getD k []).length<=16000):=fun k=>Nat.le_trans (hcs k) sm_;obtain ⟨F,hF⟩:∃ F,F=Ls.getD 0 []:=⟨_,rfl⟩;have HF:Hid (Ls.getD 0 []=F):=hF.symm;have hFl:F.length<=16000:=by rw [hF];exact HCS.out 0
 have hcl1:1<=Ls.length:=hcl.1;have hcl2:Ls.length<=16001:=by have:=hcl.2;simp at this;omega
 have c0:w1.cell? ⟨g2,0,none⟩=some (.string (ofL F)):=by rw [hF];exact hL1.2 0 hcl1
 have hg2b:=hL1.1;clear hF hLs hcs hcl
 go_wp2_with fail
 refine (c30o F _ om_ 1 om_ om_).mono ?_;rintro e w3 ⟨⟨g3,cp3,rfl,hg3,hl3⟩,hb3⟩;have hz3:w1.heap.size<=w3.heap.size:=hb3.size;have bR:=BlkAt.below bR1 hb3 om_;have oR:=OpnAt.below oR1 hb3 om_;have bM:=BlkAt.below bM1 hb3 om_;have oM:=OpnAt.below oM1 hb3 om_;have hL3:Hid (LinesAt w3 g2 Ls):=lines_below hL1 hb3;have hB3:Below w.heap.size w w3:=bT_ hB1 hb3;have d0:w3.cell? ⟨g3,0,none⟩=some (.string (ofL (wordOf F))):=hl3.2 0 (by simp [wordsN]);have hg3b:g3<w3.heap.size:=hl3.1;have hrs:=rest_small F;have hrN:ofL (restN F 1)=ofL (restOf F):=rfl;rw [hrN];clear hrN hb3 bR1 oR1 bM1 oM1 hL1 hB1 hl3 c0 hB0;have hFe:F=[]:=by rw [<- HF.out,<- HLS.out];rfl
 subst hFe;have hde:ofL (wordOf [])=⟨#[]⟩:=rfl;rw [hde] at d0;clear hde;have hMz:w.heap.size+1<w3.heap.size:=om_;have hRB:w.heap.size<w.heap.size+1:=om_;have hg3M:w.heap.size+1<g3:=om_;have hg2M:w.heap.size+1<g2:=om_;have hg2z:g2<w3.heap.size:=om_;clear hg3 hg2b hg2a hz1 hz3;generalize w.heap.size+1=Bm at*;have HN:Hid (RES [] n10z false):=res_out (.inl rfl);have hB1:=hB3
 go_wp2_with (refine wpList_store_blk rfl 47 (.tmp 2) (.tmp 122) rfl w.heap.size 0 rfl zE rfl (blk_someE bR zE rfl) oR (by simp [zE,Value.oneCell']) kr_ rfl ?_)
 exact fin4_no HN.out rfl rfl rfl bR hB1
end Go.Proofs.YtlckdgjfniglfaaGreatDoor
