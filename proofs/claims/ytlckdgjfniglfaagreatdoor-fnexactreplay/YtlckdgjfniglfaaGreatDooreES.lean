import Derived.Test.YtlckdgjfniglfaaGreatDooreER
import Derived.Deep.Heap
set_option linter.unusedVariables false
set_option maxHeartbeats 8000000
set_option maxRecDepth 100000
namespace Go.Proofs.YtlckdgjfniglfaaGreatDoor
open Proofs.Tryz
open Go.RowKit
theorem c14_ran (s:ByteArray) (w:World) (h1:1<=s.size) (h16:s.size<=16000) (hw:wordOf ((cutS 10 s.data.toList).getD 0 [])=wRan):
 Calls prog 14 #[.string s] w fun e w'=>Is4 s.data.toList w' e/\Below w.heap.size w w':=by
 have hB0:Below w.heap.size w ((w.alloc (.cells zE.toArray 47)).alloc (.cells zE.toArray 47)):=bA_.alloc sm_ _;have hsl:s.data.toList.length=s.size:=sm_;have HNE:Hid (s.data.toList≠[]):=fun h=>by rw [h] at hsl;simp at hsl;omega
 have hse:(s.toList==[])=false:=by
  rw [ByteArray.toList_eq];exact beq_eq_false_iff_ne.2 HNE.out
 have hse2:¬ s.toList=[]:=by simpa using hse
 have h16':decide (16000<(s.size:Int))=false:=so_;go_enter func14,ntmps14
 go_wp2_with fail
 refine (c29 s 10 _ om_).mono ?_;rintro e w1 ⟨⟨g2,cp,rfl,hg2,hL1⟩,hb1⟩;have hz1w:((w.alloc (.cells zE.toArray 47)).alloc (.cells zE.toArray 47)).heap.size=w.heap.size+2:=sm_;have hx1:Below (w.heap.size+2) ((w.alloc (.cells zE.toArray 47)).alloc (.cells zE.toArray 47)) w1:=hb1.mono sm_;have hg2a:w.heap.size+2<=g2:=by have h:=hg2;simp at h;omega
 have hz1:w.heap.size+2<=w1.heap.size:=by have h:=hx1.size;rw [hz1w] at h;exact h
 have bR1:BlkAt w1 w.heap.size zE:=((blk_new w zE 47).below bA_ sm_).below hx1 om_;have oR1:OpnAt w1 w.heap.size:=((opn_new w zE.toArray 47).below bA_ sm_).below hx1 om_;have bM1:BlkAt w1 (w.heap.size+1) zE:=BlkAt.below (by have h:=blk_new (w.alloc (.cells zE.toArray 47)) zE 47;simp at h;exact h) hx1 om_;have oM1:OpnAt w1 (w.heap.size+1):=OpnAt.below (by have h:=opn_new (w.alloc (.cells zE.toArray 47)) zE.toArray 47;simp at h;exact h) hx1 om_;have hB1:Below w.heap.size w w1:=hB0.trans (hx1.mono om_);have hcl:=cut_len 10 s.data.toList;have hcs:=cut_smallE 10 s.data.toList;clear hb1 hg2 hz1w hx1;obtain ⟨Ls,hLs⟩:∃ Ls,Ls=cutS 10 s.data.toList:=⟨_,rfl⟩;rw [<- hLs] at hL1 hcl hcs hw ⊢;have HLS:Hid (cutS 10 s.data.toList=Ls):=hLs.symm;have HCS:Hid (∀ k,(Ls.getD k []).length<=16000):=fun k=>Nat.le_trans (hcs k) om_;obtain ⟨F,hF⟩:∃ F,F=Ls.getD 0 []:=⟨_,rfl⟩;have HF:Hid (Ls.getD 0 []=F):=hF.symm;have hFl:F.length<=16000:=by rw [hF];exact HCS.out 0
 rw [<- hF] at hw;have hcl1:1<=Ls.length:=hcl.1;have hcl2:Ls.length<=16001:=by have:=hcl.2;omega
 have c0:w1.cell? ⟨g2,0,none⟩=some (.string (ofL F)):=by rw [hF];exact hL1.2 0 hcl1
 have hg2b:=hL1.1;clear hF hLs hcs hcl
 go_wp2_with fail
 refine (c30o F _ om_ 1 om_ om_).mono ?_;rintro e w3 ⟨⟨g3,cp3,rfl,hg3,hl3⟩,hb3⟩;have hz3:w1.heap.size<=w3.heap.size:=hb3.size;have bR:=BlkAt.below bR1 hb3 om_;have oR:=OpnAt.below oR1 hb3 om_;have bM:=BlkAt.below bM1 hb3 om_;have oM:=OpnAt.below oM1 hb3 om_;have hL3:Hid (LinesAt w3 g2 Ls):=lines_below hL1 hb3;have hB3:Below w.heap.size w w3:=bT_ hB1 hb3;have d0:w3.cell? ⟨g3,0,none⟩=some (.string (ofL (wordOf F))):=hl3.2 0 (by simp [wordsN]);have hg3b:g3<w3.heap.size:=hl3.1;have hrs:=rest_small F;have hrN:ofL (restN F 1)=ofL (restOf F):=rfl;rw [hrN];clear hrN hb3 bR1 oR1 bM1 oM1 hL1 hB1 hl3 c0 hB0;have hMz:w.heap.size+1<w3.heap.size:=om_;have hRB:w.heap.size<w.heap.size+1:=om_;have hg3M:w.heap.size+1<g3:=om_;have hg2M:w.heap.size+1<g2:=om_;have hg2z:g2<w3.heap.size:=om_;clear hg3 hg2b hg2a hz1 hz3;generalize w.heap.size+1=Bm at*;have HXg:=fun q xs c t hq hs=>lsE_4 (l:=s.data.toList) (F:=F) (q:=q) (xs:=xs) (c:=c) (t:=t) (by rw [HLS.out];exact HF.out) hw hq (by rw [HLS.out];exact hs);have HW:Hid (wordOf F=wRan):=hw;have hes:ofL (wordOf F)=⟨#[114,97,110]⟩:=by rw [hw];rfl
 rw [hes] at d0;clear hw hes;have k0:=bM 0 _ rfl;have f0:=oM 0;have hrs2:=rest_small (restOf F);have hrs3:=rest_small (restOf (restOf F))
 go_wp2_with fail
 refine (c30o (restOf F) _ om_ 2 om_ om_).mono ?_;rintro e w4 ⟨⟨g4,cp4,rfl,hg4,hl4⟩,hb4⟩;have hzs:(w3.setCell ⟨Bm,0,none⟩ (.int .i64 4)).heap.size=w3.heap.size:=sm_;have hz4:w3.heap.size<=w4.heap.size:=by have h:=hb4.size;rw [hzs] at h;exact h
 have bM4:=BlkAt.below (bM.set 0 (.int .i64 4) (by show 0<10;omega)) hb4 (by rw [hzs];exact hMz);have oM4:=OpnAt.below (oM.set ⟨Bm,0,none⟩ (.int .i64 4)) hb4 (by rw [hzs];exact hMz);have bR4:=BlkAt.below (bR.other ⟨Bm,0,none⟩ (.int .i64 4) (by show Bm≠w.heap.size;omega)) hb4 (by rw [hzs];omega);have oR4:=OpnAt.below (oR.set ⟨Bm,0,none⟩ (.int .i64 4)) hb4 (by rw [hzs];omega);have hB4:Below w.heap.size w w4:=(hB3.setCell (by show w.heap.size<=Bm;omega) _).trans (hb4.mono (by rw [hzs];omega));have hg4a:w3.heap.size<=g4:=by rw [hzs] at hg4;exact hg4
 have hg4b:g4<w4.heap.size:=hl4.1;have hL4:Hid (LinesAt w4 g2 Ls):=⟨om_,fun i hi=>(hb4.cell (p:=⟨g2,i,none⟩) (by rw [hzs];exact hg2z)).trans (pset (q:=⟨Bm,0,none⟩) (p:=⟨g2,i,none⟩) (by show Bm≠g2;omega) (hL3.out.2 i hi) _)⟩;have hrs4:=rest_small (restN (restOf F) 1);have e0:w4.cell? ⟨g4,0,none⟩=some (.string (ofL (wordOf (restOf F)))):=hl4.2 0 (by simp [wordsN]);have e1:w4.cell? ⟨g4,1,none⟩=some (.string (ofL (wordOf (restN (restOf F) 1)))):=hl4.2 1 (by simp [wordsN]);obtain ⟨j0,hj,hy0,hy1,hy2⟩:=info_parts info74;have hrl:=restN_len (restOf F);have a1:(wordOf (restOf F)).length<=16000:=om_;have a2:(wordOf (restN (restOf F) 1)).length<=16000:=by have h:=hrl 1;omega
 have a3:(restN (restOf F) 2).length<=16000:=by have h:=hrl 2;omega
 clear hb4 hzs bM oM bR oR hB3 hl4 hg4 hL3 d0 k0 f0 hrs hrs2 hrs3 hrs4 hrl;generalize restN (restOf F) 2=A3 at*;generalize wordOf (restN (restOf F) 1)=A2 at*;generalize wordOf (restOf F)=A1 at*
 go_wp2_with fail
 refine wp_region_held_drew (S:=(fun u=>u.cell? ⟨g4,0,none⟩=some (.string (ofL A1))/\u.cell? ⟨g4,1,none⟩=some (.string (ofL A2)))) kr_ ?_ fun hHeld=>?_
 · exact ⟨e0,e1⟩
 refine tq 0 hHeld ?_
 try simp only [qq]
 refine tq 1 hHeld ?_
 try simp only [qq]
 refine tq 2 hHeld ?_
 try simp only [qq]
 refine tq 3 hHeld ?_
 try simp only [qq]
 refine tq 4 hHeld ?_
 try simp only [qq]
 refine tq 5 hHeld ?_
 try simp only [qq]
 refine tq 6 hHeld ?_
 try simp only [qq]
 refine rq 7 fun K hK=>?_;go_simp;refine (c32l A3 _ om_).mono ?_;rintro e w5 ⟨⟨q,rfl,htl,htq⟩,hbn⟩;have hbc:Below w4.heap.size w4 w5:=((Below.refl _ _).drew).trans hbn;have HTQ:Hid (∀ p,A3=quoteL p->q=p):=htq;clear hbn htq
 go_wp2_with fail
 clear hHeld;refine hK.out _ _ ?_ fun hHeld=>?_
 · exact ⟨(hbc.cell (p:=⟨g4,0,none⟩) hg4b).trans e0,(hbc.cell (p:=⟨g4,1,none⟩) hg4b).trans e1⟩
 clear hK K
 try simp only [qq]
 refine tq 8 hHeld ?_
 try simp only [qq]
 refine tq 9 hHeld ?_
 try simp only [qq]
 have bM5:=BlkAt.below bM4 hbc om_;have oM5:=OpnAt.below oM4 hbc om_;have e5:w5.cell? ⟨g4,0,none⟩=some (.string (ofL A1)):=(hbc.cell (p:=⟨g4,0,none⟩) hg4b).trans e0;have e6:w5.cell? ⟨g4,1,none⟩=some (.string (ofL A2)):=(hbc.cell (p:=⟨g4,1,none⟩) hg4b).trans e1;refine rq 10 fun K hK=>?_;refine step_store_blk rfl 42 (.tmp 79) (.tmp 78) rfl Bm 4 rfl [.string (ofL A1),.string (ofL A2),.string (ofL q)] rfl (fun i hi=>by rcases i with _ | _ | _ | i;exact (by rw [bM5 4 _ rfl];rfl);exact (by rw [bM5 5 _ rfl];rfl);exact (by rw [bM5 6 _ rfl];rfl);simp at hi;omega) oM5 (by simp [Value.oneCell']) kr_ rfl ?_;clear hHeld;refine hK.out _ _ ?_ fun hHeld=>?_
 · exact ⟨(cell_fill _ 4 ⟨g4,0,none⟩ (by show g4≠Bm;omega)).trans e5,(cell_fill _ 4 ⟨g4,1,none⟩ (by show g4≠Bm;omega)).trans e6⟩
 clear hK K
 try simp only [qq]
 refine wpAnyH_done kr_ ?_ _;clear hHeld;have hz5:w4.heap.size<=w5.heap.size:=hbc.size;have bR5':=BlkAt.below bR4 hbc om_;have oR5':=OpnAt.below oR4 hbc om_;have hB5':Below w.heap.size w w5:=bT_ hB4 hbc;have hL5':=lines_below hL4.out hbc;have bM6:BlkAt (fill w5 Bm 4 [.string (ofL A1),.string (ofL A2),.string (ofL q)]) Bm [.int .i64 4,.int .i64 0,.string ⟨#[]⟩,.string ⟨#[]⟩,.string (ofL A1),.string (ofL A2),.string (ofL q),.slice none 0 0,.int .i64 0,.string ⟨#[]⟩]:=BlkAt.fill (B:=Bm) [.string (ofL A1),.string (ofL A2),.string (ofL q)] [.int .i64 4,.int .i64 0,.string ⟨#[]⟩,.string ⟨#[]⟩] [.string ⟨#[]⟩,.string ⟨#[]⟩,.string ⟨#[]⟩] [.slice none 0 0,.int .i64 0,.string ⟨#[]⟩] 4 bM5 rfl rfl;have oM6:OpnAt (fill w5 Bm 4 [.string (ofL A1),.string (ofL A2),.string (ofL q)]) Bm:=OpnAt.fill _ 4 oM5;have bR6:BlkAt (fill w5 Bm 4 [.string (ofL A1),.string (ofL A2),.string (ofL q)]) w.heap.size zE:=BlkAt.fillO om_ _ 4 bR5';have oR6:OpnAt (fill w5 Bm 4 [.string (ofL A1),.string (ofL A2),.string (ofL q)]) w.heap.size:=OpnAt.fill _ 4 oR5';have hB6:Below w.heap.size w (fill w5 Bm 4 [.string (ofL A1),.string (ofL A2),.string (ofL q)]):=below_fill om_ _ 4 hB5';have hz6:(fill w5 Bm 4 [.string (ofL A1),.string (ofL A2),.string (ofL q)]).heap.size=w5.heap.size:=size_fill _ _;have hL6:LinesAt (fill w5 Bm 4 [.string (ofL A1),.string (ofL A2),.string (ofL q)]) g2 Ls:=⟨by rw [hz6];exact hL5'.1,fun i hi=>(cell_fill _ 4 ⟨g2,i,none⟩ (by show g2≠Bm;omega)).trans (hL5'.2 i hi)⟩;have hg2w:g2<w5.heap.size:=om_;have hMw:Bm<w5.heap.size:=om_;rw [<- hz6] at hg2w hMw;clear hz6 hbc bM4 oM4 bM5 oM5 bR4 oR4 bR5' oR5' hB4 hB5' hL5' hL4 e0 e1 e5 e6;generalize fill w5 Bm 4 [.string (ofL A1),.string (ofL A2),.string (ofL q)]=w6 at*;obtain ⟨B5,hB5e⟩:∃ B5,B5=w6.heap.size:=⟨_,rfl⟩;have hMB:Bm<B5:=om_;have hgB:g2<B5:=om_;have hRB5:w.heap.size<B5:=om_;clear hg4a hg4b hz4 hz5 hMz hg2z hg3b hg3M
 go_wp2_with fail
 go_loopw [12] (fun i wr=>∃ (k:Nat) (xs:List L4) (v:Value) (c:Int) (t:ByteArray),(1<=k/\k<=Ls.length/\xs.length<=k)/\i=.int .i64 k/\wr.ownsRow B5 74 4 v xs.length (lkC xs)/\BlkAt wr Bm [.int .i64 4,.int .i64 0,.string ⟨#[]⟩,.string ⟨#[]⟩,.string (ofL A1),.string (ofL A2),.string (ofL q),v,.int .i64 c,.string t]/\OpnAt wr Bm/\BlkAt wr w.heap.size zE/\OpnAt wr w.heap.size/\LinesAt wr g2 Ls/\Below w.heap.size w wr/\B5<=wr.heap.size/\Hid (RnSo Ls k xs c t/\(∀ j,(xs.getD j l4z).le 1048576)/\t.size<=1048576)) (fun i _=>Ls.length - (intOf i).toNat)
 case atStart=>exact ⟨1,[],.slice none 0 0,0,⟨#[]⟩,⟨Nat.le_refl _,om_,Nat.zero_le _⟩,rfl,⟨rfl,.inl ⟨rfl,rfl⟩⟩,bM6,oM6,bR6,oR6,hL6,hB6,om_,⟨rn_start _ _ _,fun _=>⟨Nat.zero_le _,Nat.zero_le _⟩,Nat.zero_le _⟩⟩
 case round=>
  clear bM6 oM6 bR6 oR6 hL6 hB6 hB5e hg2w hMw;obtain ⟨k,xs,v,c,t,⟨hk1,hk2,hk3⟩,rfl,hown,bM,oM,bR,oR,hL,hB,hz,hso⟩:=hrel;by_cases hlt:k<Ls.length
  · have ck:wr.cell? ⟨g2,k,none⟩=some (.string (ofL (Ls.getD k []))):=hL.2 k hlt
    have hT:=HCS.out k;have HST1:=fun x h=>rn_look (x:=x) hso.out.1 hk1 hlt h;have HST2:=fun x c2 t2 h h5 hr=>rn_res (x:=x) (c2:=c2) (t2:=t2) hso.out.1 hk1 hlt h h5 hr;have HST3:=fun x h h5=>rn_skip (x:=x) hso.out.1 hk1 hlt h h5;have hxso:=hso.out.2;clear hso;generalize Ls.getD k []=T at*;have HST1:Hid _:=HST1;have HST2:Hid _:=HST2;have HST3:Hid _:=HST3;have HXS:Hid _:=hxso;clear hxso
    go_wp2_with fail
    refine (c33g T _ hT).mono ?_;rintro e w7 ⟨⟨x,ok,rfl,hls,hxle⟩,hb7⟩;have HLL:Hid (LsLk T x ok):=hls;have hown7:w7.ownsRow B5 74 4 v xs.length (lkC xs):=own_under hown hb7;have hz7:wr.heap.size<=w7.heap.size:=hb7.size;have hb7':Below B5 wr w7:=hb7.mono hz;have hB7:Below w.heap.size w w7:=bT_ hB hb7;have oa:∀ o,Below B5 wr (w7.alloc o):=fun o=>hb7'.alloc om_ o;clear hls hb7 hown;unfold L4.v;cases ok
    · have ck7:∀ o,(w7.alloc o).cell? ⟨g2,k,none⟩=some (.string (ofL T)):=fun o=>((oa o).cell (p:=⟨g2,k,none⟩) hgB).trans ck
      by_cases h5:5<T.length
      · have h5':decide ((5:Int)<((ofL T).size:Int))=true:=by rw [ofL_size];simp;omega
        have h5n:5<=(ofL T).size:=by rw [ofL_size];omega
        have hex:(ofL T).extract 5 (ofL T).size=ofL (T.drop 5):=ext_ofL (by rw [ext_list,ofL_size,ofL_listE,List.take_of_length_le om_])
        go_wp2_with fail
        refine (c34 (T.drop 5) _ (by rw [List.length_drop];omega)).mono ?_;rintro e w8 ⟨⟨c2,t2,rfl,hr8,ht8⟩,hb8⟩;have HSO:Hid (RnSo Ls (k+1) xs c2 t2/\(∀ j,(xs.getD j l4z).le 1048576)/\t2.size<=1048576):=⟨HST2.out x c2 t2 HLL.out h5 hr8,HXS.out.1,ht8⟩;have hb8':Below B5 wr w8:=(oa _).trans (hb8.mono so_);have hown8:=own_under (hown7.alloc _) hb8;have hB8:Below w.heap.size w w8:=(hB7.alloc hB7.size _).trans (hb8.mono (by have:=hB7.size;simp;omega));have hz8:wr.heap.size<=w8.heap.size:=by have h:=hb8.size;simp at h;omega
        have bM8:=bM.below hb8' hMB;have oM8:=oM.below hb8' hMB;have k8:=bM8 8 _ rfl;have f8:=oM8 8;have k9:=bM8 9 _ rfl;have f9:=oM8 9;clear hr8 hb8 HST1 HST2 HST3;go_wp2;go_roundw
        case rel=>
         exact ⟨k+1,xs,v,c2,t2,⟨om_,om_,om_⟩,by go_num,own_setE (own_setE hown8 ⟨Bm,8,none⟩ _ hMB) ⟨Bm,9,none⟩ _ hMB,(bM8.set 8 (.int .i64 c2) (by show 8<10;omega)).set 9 (.string t2) (by show 9<10;omega),(oM8.set _ _).set _ _,((bR.below hb8' hRB5).other _ _ (by show Bm≠w.heap.size;omega)).other _ _ (by show Bm≠w.heap.size;omega),((oR.below hb8' hRB5).set _ _).set _ _,⟨by have:=hL.1;simp;omega,fun i hi=>pset (q:=⟨Bm,9,none⟩) (p:=⟨g2,i,none⟩) (by show Bm≠g2;omega) (pset (q:=⟨Bm,8,none⟩) (p:=⟨g2,i,none⟩) (by show Bm≠g2;omega) ((hb8'.cell (p:=⟨g2,i,none⟩) hgB).trans (hL.2 i hi)) _) _⟩,(hB8.setCell (by show w.heap.size<=Bm;omega) _).setCell (by show w.heap.size<=Bm;omega) _,so_,HSO⟩
        case measure=>simp [intOf];omega
      · have h5':decide ((5:Int)<((ofL T).size:Int))=false:=by rw [ofL_size];simp;omega
        have HSO:Hid (RnSo Ls (k+1) xs c t/\(∀ j,(xs.getD j l4z).le 1048576)/\t.size<=1048576):=⟨HST3.out x HLL.out h5,HXS.out⟩;clear HST1 HST2 HST3 h5;go_wp2;go_roundw
        case rel=>exact ⟨k+1,xs,v,c,t,⟨om_,om_,om_⟩,by go_num,hown7.alloc _,bM.below (oa _) hMB,oM.below (oa _) hMB,bR.below (oa _) hRB5,oR.below (oa _) hRB5,⟨by have:=hL.1;simp;omega,fun i hi=>((oa _).cell (p:=⟨g2,i,none⟩) hgB).trans (hL.2 i hi)⟩,hB7.alloc hB7.size _,so_,HSO⟩
        case measure=>simp [intOf];omega
    · have HSO:Hid (RnSo Ls (k+1) (xs++[x]) c t/\(∀ j,((xs++[x]).getD j l4z).le 1048576)/\t.size<=1048576):=⟨HST1.out x HLL.out,fun j=>by
       rcases Nat.lt_or_ge j xs.length with hj | hj
       · have:(xs++[x]).getD j l4z=xs.getD j l4z:=by
          simp only [List.getD_eq_getElem?_getD];rw [List.getElem?_append_left hj]
         rw [this];exact HXS.out.1 j
       · by_cases hj2:j=xs.length
         · have:(xs++[x]).getD j l4z=x:=by
            simp only [List.getD_eq_getElem?_getD];rw [List.getElem?_append_right hj,hj2];simp
           rw [this];exact hxle
         · have:(xs++[x]).getD j l4z=l4z:=by
            simp only [List.getD_eq_getElem?_getD];rw [List.getElem?_eq_none so_];rfl
           rw [this];exact ⟨Nat.zero_le _,Nat.zero_le _⟩,HXS.out.2⟩
      clear HST1 HST2 HST3;have k7a:=fun o=>bM.below (oa o) hMB 7 _ rfl;have oaa:∀ o o',Below B5 wr ((w7.alloc o).alloc o'):=fun o o'=>(oa o).alloc so_ o'
      go_wp2_with (at_builtin;refine wpList_append_own _ rfl _ _ 43 rfl B5 74 j0 (.agg #[.bool false,.string ⟨#[]⟩,.int .i64 0,.string ⟨#[]⟩]) 4 48 underlying43 hj hy0 hy1 hy2 rfl dc_ _ _ _ rfl ((hown7.alloc _).alloc _) ⟨w7.heap.size+1,0,none⟩ 1 1 [_,_,_,_] rfl rfl (row4g sm_ _ _ _ _ _) (by intro u hu;simp at hu;rcases hu with rfl | rfl | rfl | rfl <;> rfl) (by unfold maxLen;omega) om_ so_ ?_;intro v' w8 hown8 hgrow _;have hb8:Below B5 wr w8:=(oaa _ _).grown hgrow so_ (fun j hj=>(hown7.lt j hj).1);have hB8:Below w.heap.size w w8:=((hB7.alloc hB7.size _).alloc so_ _).grown hgrow so_ (fun j hj=>by have:=(hown7.lt j hj).1;omega);have hz8:w7.heap.size<=w8.heap.size:=(by have:=hgrow.size;simp at this;omega);clear hgrow;obtain ⟨g8,cp8,hv8⟩:=own_formF hown8 om_;subst hv8;have bM8:=bM.below hb8 hMB;have oM8:=oM.below hb8 hMB;have k7:=bM8 7 _ rfl;have f7:=oM8 7)
      go_roundw
      case rel=>
       refine ⟨k+1,xs++[x],.slice (some ⟨g8,0,none⟩) (xs.length+1) cp8,c,t,⟨om_,om_,so_⟩,by go_num,?_,?_,oM8.set _ _,(bR.below hb8 hRB5).other _ _ (by show Bm≠w.heap.size;omega),(oR.below hb8 hRB5).set _ _,⟨by have:=hL.1;simp;omega,fun i hi=>pset (q:=⟨Bm,7,none⟩) (p:=⟨g2,i,none⟩) (by show Bm≠g2;omega) ((hb8.cell (p:=⟨g2,i,none⟩) hgB).trans (hL.2 i hi)) _⟩,hB8.setCell (by show w.heap.size<=Bm;omega) _,so_,HSO⟩
       · rw [List.length_append,lkC_snoc]
         exact own_setE hown8 ⟨Bm,7,none⟩ _ hMB
       · exact bM8.set 7 _ (by show 7<10;omega)
      case measure=>simp [intOf];omega
  · obtain rfl:k=Ls.length:=om_
    have HX:Hid (LsE s.data.toList (eRan ⟨ofL A1,ofL A2,ofL q⟩ xs c t)):=HXg q xs c t HTQ.out hso.out.1;have hxl:=hso.out.2.1;have htx:=hso.out.2.2;obtain ⟨ao,cc,hv,hlk⟩:=own_lks hown rfl;subst hv;have hAne:∀ g o,ao=some ⟨g,o,none⟩->g≠w.heap.size:=fun g o h=>by
     subst h;have:=(hown.lt g rfl).1;omega
    have HM:BlkAt wr Bm ((eRan ⟨ofL A1,ofL A2,ofL q⟩ xs c t).c ao cc):=bM;have HR:=bR;have HO:=oR;have hBU:=hB;have hMU:Bm<wr.heap.size:=om_;have hRU:w.heap.size<wr.heap.size:=om_;have HLK:LksAt wr ao (eRan ⟨ofL A1,ofL A2,ofL q⟩ xs c t).ls:=hlk.at';have hle:(eRan ⟨ofL A1,ofL A2,ofL q⟩ xs c t).le 1048576:=⟨Nat.zero_le _,Nat.zero_le _,⟨by show (ofL A1).size<=1048576;rw [ofL_size];omega,by show (ofL A2).size<=1048576;rw [ofL_size];omega,by show (ofL q).size<=1048576;rw [ofL_size];omega⟩,⟨by show xs.length<=1048576;omega,hxl⟩,htx⟩;clear hso hown hlk bM oM bR oR hL hB HXg hxl htx;generalize eRan ⟨ofL A1,ofL A2,ofL q⟩ xs c t=XX at*
    go_wp2_with (refine wpList_load_blkW (by rfl) 47 (.tmp 4) rfl Bm rfl ((XX).c ao cc) _ HM underlying47 rfl kr_ ?_)
    refine (c35 (XX) ao cc _ hle HLK).mono ?_;rintro e U1 ⟨⟨str,rfl,hT⟩,hbU⟩;have HM1:=BlkAt.below HM hbU hMU;have HR1:=BlkAt.below HR hbU hRU;have HO1:=OpnAt.below HO hbU hRU;have hB1:Below w.heap.size w U1:=bT_ hBU hbU;have HLK1:=lks_below HLK hbU;clear HM HR HO HLK hBU hbU;by_cases he:str.data.toList=s.data.toList
    · have HN:Hid (RES s.data.toList (XX) true):=res_yes HX.out hT HNE.out he
      have e2:str.toList=s.toList:=by rw [ByteArray.toList_eq,ByteArray.toList_eq];exact he
      have e1:(str.toList==s.toList)=true:=by simpa using e2
      clear hT HX he
      go_wp2_with (first | refine wpList_load_blk rfl 47 (.tmp 4) rfl Bm rfl ((XX).c ao cc) _ HM1 underlying47 rfl kr_ ?_ | refine wpList_store_blk rfl 47 (.tmp 2) (.tmp 123) rfl w.heap.size 0 rfl ((XX).c ao cc) rfl (blk_someE HR1 _ rfl) HO1 (N10.c_one _ _ _) kr_ rfl ?_)
      exact fin4 (XX) ao cc true HN.out (fun h=>by cases h) hle (lks_filo _ HLK1 hAne) rfl rfl rfl HR1 hB1
    · have HN:Hid (RES s.data.toList n10z false):=res_no HX.out hT he
      have e2:¬ str.toList=s.toList:=by rw [ByteArray.toList_eq,ByteArray.toList_eq];exact he
      have e1:(str.toList==s.toList)=false:=by simpa using e2
      clear hT HX he
      go_wp2_with (refine wpList_store_blk rfl 47 (.tmp 2) (.tmp 122) rfl w.heap.size 0 rfl zE rfl (blk_someE HR1 zE rfl) HO1 (by simp [zE,Value.oneCell']) kr_ rfl ?_)
      exact fin4_no HN.out rfl rfl rfl HR1 hB1
end Go.Proofs.YtlckdgjfniglfaaGreatDoor
