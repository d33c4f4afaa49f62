import Derived.Test.YthfmmimmfcnhmaaGreatDoorT5
import Derived.Test.YthfmmimmfcnhmaaGreatDoorZ07
set_option maxHeartbeats 8000000
namespace Go.Proofs.YthfmmimmfcnhmaaGreatDoor
open Proofs.Tryz
open Go.RowKit
theorem ret_bb {a b x y:Bool} (h:a=b) (h':x=y):Ending.returned (.tuple #[.bool a,.bool x])=.returned (.tuple #[.bool b,.bool y]):=by rw [h,h']
theorem c119 (op:Int) (w:World):
 Calls prog 119 #[.int .i64 op] w fun e w'=>e=.returned (.tuple #[.bool (usesTx op),.bool (usesTo op)])/\w'=w:=by
 go_enter func119,ntmps119
 go_wp2
 all_goals go_ret2
 all_goals refine ⟨ret_bb ?_ ?_,rfl⟩
 all_goals simp only [usesTx,usesTo]
 all_goals first | rfl | (simp_all;done) | (simp_all;omega)
theorem word_cell (op:Nat) (h1:1<=op) (h2:op<=11) (u:World):(u.alloc (.cells #[.string ⟨#[]⟩,.string ⟨#[108,105,116]⟩,.string ⟨#[97,114,103]⟩,.string ⟨#[97,115,107]⟩,.string ⟨#[104,97,115]⟩,.string ⟨#[112,117,116]⟩,.string ⟨#[99,97,116]⟩,.string ⟨#[108,105,110,101]⟩,.string ⟨#[105,102]⟩,.string ⟨#[103,111]⟩,.string ⟨#[101,110,100]⟩,.string ⟨#[102,97,105,108]⟩] 9)).cell? ⟨u.heap.size,op,none⟩=some (.string (wordA op)):=by
 obtain rfl | rfl | rfl | rfl | rfl | rfl | rfl | rfl | rfl | rfl | rfl:op=1\/op=2\/op=3\/op=4\/op=5\/op=6\/op=7\/op=8\/op=9\/op=10\/op=11:=by omega
 all_goals simp [wordA,word]
theorem c118_in (op:Nat) (w:World) (h1:1<=op) (h2:op<=11):
 Calls prog 118 #[.int .i64 op] w fun e w'=>e=.returned (.string (wordA op))/\Below w.heap.size w w':=by
 have hd:decide ((1:Int)<=(op:Int)/\(op:Int)<=11)=true:=by simp;omega
 have hc:=word_cell op h1 h2
 go_enter func118,ntmps118
 go_wp2_with fail
 refine (c32 _ _ _ _).mono ?_
 rintro e w' ⟨rfl,hw⟩
 obtain rfl:=hw.symm
 rw [hd]
 go_wp2
 go_ret
 exact ⟨rfl,(Below.refl _ _).alloc (Nat.le_refl _) _⟩
theorem word_out (op:Int) (h:¬ (1<=op/\op<=11)):word op=[]:=by
 unfold word
 repeat (rw [if_neg (by omega)])
theorem word_in (op:Int) (h:1<=op/\op<=11):word op≠[]/\(word op).length<=4:=by
 obtain rfl | rfl | rfl | rfl | rfl | rfl | rfl | rfl | rfl | rfl | rfl:op=1\/op=2\/op=3\/op=4\/op=5\/op=6\/op=7\/op=8\/op=9\/op=10\/op=11:=by omega
 all_goals decide
theorem c118 (op:Int) (w:World):
 Calls prog 118 #[.int .i64 op] w fun e w'=>e=.returned (.string (wordA op))/\Below w.heap.size w w':=by
 by_cases h:1<=op/\op<=11
 · obtain ⟨n,rfl⟩:=Int.eq_ofNat_of_zero_le (show 0<=op by omega)
   exact c118_in n w (by omega) (by omega)
 have hd:decide (1<=op/\op<=11)=false:=by simpa using h
 have HW:Hid (wordA op=⟨#[]⟩):=by unfold wordA;rw [word_out op h];rfl
 go_enter func118,ntmps118
 go_wp2_with fail
 refine (c32 _ _ _ _).mono ?_
 rintro e w' ⟨rfl,rfl⟩
 rw [hd]
 go_wp2
 go_ret
 exact ⟨by rw [HW.out];rfl,Below.refl _ _⟩
theorem okI_bad {x:I3} (h:okI x=true):(1<=x.op/\x.op<=11)/\(usesTo x.op=true\/x.to=0)/\(usesTx x.op=true\/x.tx.toList.isEmpty=true)/\0<=x.to/\x.to<=40/\(x.tx.size:Int)<=300:=by
 unfold okI at h
 simp only [Bool.and_eq_true,Bool.or_eq_true,decide_eq_true_eq,beq_iff_eq] at h
 exact ⟨h.1.1.1.1,h.1.1.1.2,h.1.1.2,h.1.2.1,h.1.2.2,h.2⟩
theorem okI_mk {x:I3} (h1:1<=x.op/\x.op<=11) (h2:usesTo x.op=true\/x.to=0) (h3:usesTx x.op=true\/x.tx.toList.isEmpty=true) (h4:0<=x.to) (h5:x.to<=40) (h6:(x.tx.size:Int)<=300):okI x=true:=by
 unfold okI
 simp only [Bool.and_eq_true,Bool.or_eq_true,decide_eq_true_eq,beq_iff_eq]
 exact ⟨⟨⟨⟨h1,h2⟩,h3⟩,h4,h5⟩,h6⟩
theorem wordA_empty (op:Int):(wordA op).toList.isEmpty=!decide (1<=op/\op<=11):=by
 rw [ByteArray.toList_eq]
 by_cases h:1<=op/\op<=11
 · rw [show decide (1<=op/\op<=11)=true by simpa using h]
   have:=(word_in op h).1
   cases hw:word op with
   | nil=>exact absurd hw this
   | cons a r=>simp [wordA,hw]
 rw [show decide (1<=op/\op<=11)=false by simpa using h]
 simp [wordA,word_out op h]
theorem c114 (a:Option Addr) (cap:Nat) (is:List I3) (w:World) (hs:∀ i,(is.getD i i3z).tx.size<=1048700) (hl:is.length<=1048576) (hat:InsAt w a is):
 Calls prog 114 #[.agg #[.slice a is.length cap]] w fun e w'=>e=.returned (.bool (okT is))/\Below w.heap.size w w':=by
 by_cases hn:1<=is.length/\is.length<=40
 rotate_left
 · have HO:Hid (okT is=false):=by unfold okT;rw [show decide (1<=is.length/\is.length<=40)=false by simpa using hn];rfl
   have hd:decide ((1:Int)<=(is.length:Int)/\(is.length:Int)<=40)=false:=by simp only [decide_eq_false_iff_not];omega
   clear hat
   go_enter func114,ntmps114
   go_wp2_with fail
   refine (c32 _ _ _ _).mono ?_
   rintro e w0 ⟨rfl,hw0⟩
   obtain rfl:=hw0.symm
   rw [hd]
   go_wp2
   go_ret
   exact ⟨ret_bool HO.out.symm,(Below.refl _ _).alloc (Nat.le_refl _) _⟩
 have HO:Hid (okT is=is.all okI):=by unfold okT;rw [show decide (1<=is.length/\is.length<=40)=true by simpa using hn];rfl
 have hd:decide ((1:Int)<=(is.length:Int)/\(is.length:Int)<=40)=true:=by simp;omega
 obtain ⟨hn1,hn2⟩:=hn
 obtain ⟨b,off,hc⟩:=ins_some hat
 rcases hc with hc | ⟨rfl,hbw,hcell⟩
 · rw [hc] at hn1;simp at hn1
 clear hat
 go_enter func114,ntmps114
 go_wp2_with fail
 refine (c32 _ _ _ _).mono ?_
 rintro e w0 ⟨rfl,hw0⟩
 obtain rfl:=hw0.symm
 rw [hd]
 go_wp2_with fail
 go_loopw [3] (fun i wr=>∃ (k:Nat),k<=is.length/\i=.int .i64 k/\Below (w.heap.size+1) (w.alloc (.cells #[.slice (some ⟨b,off,none⟩) is.length cap] 150)) wr/\Hid ((is.take k).all okI=true)) (fun i _=>is.length - (intOf i).toNat)
 case atStart=>exact ⟨0,Nat.zero_le _,rfl,Below.refl _ _,rfl⟩
 obtain ⟨k,hk,rfl,hbx,hall⟩:=hrel
 have hb:Below w.heap.size w wr:=((Below.refl w.heap.size w).alloc (Nat.le_refl _) _).trans (hbx.mono (by omega))
 have hcode:wr.cell? ⟨w.heap.size,0,none⟩=some (.slice (some ⟨b,off,none⟩) is.length cap):=(hbx.cell (p:=⟨w.heap.size,0,none⟩) (by simp)).trans (by simp [go_sem])
 by_cases hlt:k<is.length
 rotate_left
 · have HN:Hid (okT is=true):=by rw [HO.out];have:=hall.out;rwa [List.take_of_length_le (by omega)] at this
   go_wp2
   go_ret
   exact ⟨ret_bool HN.out.symm,hb⟩
 have g0:=(hb.cell (p:=⟨b,off+k*3,none⟩) hbw).trans (hcell k hlt).1
 have g1:=(hb.cell (p:=⟨b,off+k*3+1,none⟩) hbw).trans (hcell k hlt).2.1
 have g2:=(hb.cell (p:=⟨b,off+k*3+2,none⟩) hbw).trans (hcell k hlt).2.2
 have hxs:=hs k
 generalize hx:is.getD k i3z=x at*
 have HX:Hid (is.getD k i3z=x):=hx
 clear hx
 have HCE:Hid (∀ i,i<is.length->w.cell? ⟨b,off+i*3,none⟩=some (.int .i64 (is.getD i i3z).op)/\w.cell? ⟨b,off+i*3+1,none⟩=some (.string (is.getD i i3z).tx)/\w.cell? ⟨b,off+i*3+2,none⟩=some (.int .i64 (is.getD i i3z).to)):=hcell
 have hzr:w.heap.size+1<=wr.heap.size:=by have:=hbx.size;simp at this;omega
 clear hcell
 go_wp2_with fail
 refine (c119 x.op _).mono ?_
 rintro e w1 ⟨rfl,hw1⟩
 obtain rfl:=hw1.symm
 go_wp2_with fail
 refine (c118 x.op _).mono ?_
 rintro e w1 ⟨rfl,hb1⟩
 have he:=wordA_empty x.op
 have p0:w1.cell? ⟨wr.heap.size,0,none⟩=some (.int .i64 x.op):=(hb1.cell (p:=⟨wr.heap.size,0,none⟩) (by simp)).trans (by simp [go_sem])
 have p1:w1.cell? ⟨wr.heap.size,1,none⟩=some (.string x.tx):=(hb1.cell (p:=⟨wr.heap.size,1,none⟩) (by simp)).trans (by simp [go_sem])
 have p2:w1.cell? ⟨wr.heap.size,2,none⟩=some (.int .i64 x.to):=(hb1.cell (p:=⟨wr.heap.size,2,none⟩) (by simp)).trans (by simp [go_sem])
 have hBx:Below (w.heap.size+1) (w.alloc (.cells #[.slice (some ⟨b,off,none⟩) is.length cap] 150)) w1:=(hbx.alloc hzr _).trans (hb1.mono (by simp;omega))
 have hB1:Below w.heap.size w w1:=((Below.refl w.heap.size w).alloc (Nat.le_refl _) _).trans (hBx.mono (by omega))
 clear hcode hb hbx hb1 g0 g1 g2
 cases hok:okI x
 · have HN:Hid (okT is=false):=by rw [HO.out];exact all_not hlt (by rw [HX.out];exact hok)
   have HK:Hid (okI x=false):=hok
   clear hok
   go_wp2_with (go_at_call 32;refine (c32 _ _ _ _).mono ?_;rintro e w2 ⟨rfl,rfl⟩)
   all_goals first
    | (go_ret;exact ⟨ret_bool HN.out.symm,hB1⟩)
    | (exfalso;refine Bool.false_ne_true (HK.out.symm.trans (okI_mk ?_ ?_ ?_ ?_ ?_ ?_)))
   all_goals first
    | assumption
    | exact .inl (by assumption)
    | exact .inr (by assumption)
    | exact .inr (by rw [show x.tx.toList=[] by assumption];rfl)
    | (have hh:(x.tx.size:Int)<=300/\(!decide (0<=x.to))=false/\(!decide (x.to<=40))=false:=by assumption
       simp only [Bool.not_eq_false',decide_eq_true_eq] at hh
       omega)
    | omega
 have hall':Hid ((is.take (k+1)).all okI=true):=all_snoc hlt hall.out (by rw [HX.out];exact hok)
 obtain ⟨o1,o2,o3,o4,o5,o6⟩:=okI_bad hok
 have hd1:decide (1<=x.op/\x.op<=11)=true:=by simpa using o1
 have hd2:decide (0<=x.to/\x.to<=40)=true:=by simpa using ⟨o4,o5⟩
 clear hok
 rcases o2 with o2 | o2 <;> rcases o3 with o3 | o3
 all_goals
  go_wp2_with (go_at_call 32;refine (c32 _ _ _ _).mono ?_;rintro e w2 ⟨rfl,rfl⟩)
  all_goals go_roundw
  all_goals first
   | exact ⟨k+1,by omega,by go_num,hBx,hall'⟩
   | (simp [intOf];omega)
variable {is:List I3} {k:Nat}
def toL (x:I3):List UInt8:=if usesTo x.op=true then 32::Lib.decDigits x.to.toNat else []
def txL (x:I3):List UInt8:=if usesTx x.op=true then 32::quoteL x.tx.data.toList else []
def lineL (x:I3):List UInt8:=word x.op++toL x++txL x++[10]
theorem decLen (n:Nat) (h:n<100):(Lib.decDigits n).length<=2:=by
 by_cases h10:n<10
 · rw [dec_small n h10];simp
 rw [dec_two n h10,dec_small (n / 10) (by omega)];simp
theorem line_len {x:I3} (h:okI x=true):(word x.op).length<=4/\(toL x).length<=3/\(txL x).length<=903/\(lineL x).length<=911:=by
 obtain ⟨h1,_,_,h4,h5,h6⟩:=okI_bad h
 have a:=(word_in x.op h1).2
 have b:(toL x).length<=3:=by
  unfold toL;split
  · have:=decLen x.to.toNat (by omega);simp;omega
  simp
 have c:(txL x).length<=903:=by
  unfold txL;split
  · have:=quote_len x.tx.data.toList
    have e:x.tx.data.toList.length=x.tx.size:=by simp
    simp;omega
  simp
 refine ⟨a,b,c,?_⟩
 unfold lineL;simp only [List.length_append,List.length_cons,List.length_nil];omega
theorem wordA_ofL (op:Int):wordA op=ofL (word op):=rfl
theorem c112' (s:ByteArray) (w:World) (hs:s.size<=1048700):
 Calls Tryz.prog 112 #[.string s] w fun e w'=>e=.returned (.string (ofL (quoteL s.data.toList)))/\Below w.heap.size w w':=c112 s w hs
def formL (is:List I3):List UInt8:=if okT is=true/\(is.flatMap lineL).length<=300 then is.flatMap lineL else []
theorem lines_len (is:List I3) (h:is.all okI=true):(is.flatMap lineL).length<=911*is.length:=by
 induction is with
 | nil=>simp
 | cons x r ih=>
  simp only [List.all_cons,Bool.and_eq_true] at h
  have:=ih h.2
  have h4:=(line_len h.1).2.2.2
  simp only [List.flatMap_cons,List.length_append,List.length_cons];omega
theorem okT_facts (h:okT is=true):(1<=is.length/\is.length<=40)/\is.all okI=true:=by
 unfold okT at h
 simp only [Bool.and_eq_true,decide_eq_true_eq] at h
 exact h
theorem take_all (h:is.all okI=true) (k:Nat):(is.take k).all okI=true:=by
 rw [List.all_eq_true] at h ⊢
 exact fun x hx=>h x (List.mem_of_mem_take hx)
theorem get_ok (h:is.all okI=true) (hk:k<is.length):okI (is.getD k i3z)=true:=by
 have e:is.getD k i3z=is[k]:=by simp [hk]
 rw [e];rw [List.all_eq_true] at h
 exact h _ (List.getElem_mem hk)
theorem flat_snoc (hk:k<is.length):(is.take (k+1)).flatMap lineL=(is.take k).flatMap lineL++lineL (is.getD k i3z):=by
 have e:is.getD k i3z=is[k]:=by simp [hk]
 rw [List.take_succ_eq_append_getElem hk,List.flatMap_append,e];simp
end Go.Proofs.YthfmmimmfcnhmaaGreatDoor
namespace Go.Proofs.YthfmmimmfcnhmaaGreatDoor
open Go.RowKit
variable {x:I3}
theorem to_yes (h:usesTo x.op=true):toL x=32::Lib.decDigits x.to.toNat:=by unfold toL;rw [if_pos h]
theorem to_no (h:usesTo x.op=false):toL x=[]:=by unfold toL;rw [if_neg (by simp [h])]
theorem tx_yes (h:usesTx x.op=true):txL x=32::quoteL x.tx.data.toList:=by unfold txL;rw [if_pos h]
theorem tx_no (h:usesTx x.op=false):txL x=[]:=by unfold txL;rw [if_neg (by simp [h])]
theorem c121 (a:Option Addr) (cap:Nat) (is:List I3) (w:World) (hs:∀ i,(is.getD i i3z).tx.size<=1048700) (hl:is.length<=1048576) (hat:InsAt w a is):
 Calls Tryz.prog 121 #[.agg #[.slice a is.length cap]] w fun e w'=>e=.returned (.string (ofL (formL is)))/\Below w.heap.size w w':=by
 have HAT:Hid (InsAt w a is):=hat
 have hB0:Below w.heap.size w (w.alloc (.cells #[.slice a is.length cap] 150)):=(Below.refl _ _).alloc (Nat.le_refl _) _
 clear hat
 go_enter Tryz.func121,Tryz.ntmps121
 go_wp2_with fail
 refine (c114 a cap is _ hs hl (ins_below HAT.out hB0)).mono ?_
 rintro e w1 ⟨rfl,hb1⟩
 have hB1:Below w.heap.size w w1:=hB0.trans (hb1.mono hB0.size)
 have hcode:w1.cell? ⟨w.heap.size,0,none⟩=some (.slice a is.length cap):=(hb1.cell (p:=⟨w.heap.size,0,none⟩) (by simp)).trans (by simp [go_sem])
 have hz1:w.heap.size+1<=w1.heap.size:=by have:=hb1.size;simp at this;omega
 clear hb1
 cases hok:okT is
 · have HN:Hid (formL is=[]):=by unfold formL;rw [if_neg (by simp [hok])];rfl
   clear hok
   go_wp2
   go_ret
   exact ⟨ret_str (by rw [HN.out];rfl),hB1⟩
 obtain ⟨⟨hn1,hn2⟩,hall⟩:=okT_facts hok
 have HALL:Hid (is.all okI=true):=hall
 have HOK:Hid (okT is=true):=hok
 clear hok hall
 obtain ⟨b,off,hc⟩:=ins_some HAT.out
 rcases hc with hc | ⟨rfl,hbw,hcell⟩
 · rw [hc] at hn1;simp at hn1
 have HCE:Hid (∀ i,i<is.length->w.cell? ⟨b,off+i*3,none⟩=some (.int .i64 (is.getD i i3z).op)/\w.cell? ⟨b,off+i*3+1,none⟩=some (.string (is.getD i i3z).tx)/\w.cell? ⟨b,off+i*3+2,none⟩=some (.int .i64 (is.getD i i3z).to)):=hcell
 clear hcell
 go_wp2_with fail
 go_loopw [3,4] (fun o i wr=>∃ (k:Nat),k<=is.length/\i=.int .i64 k/\o=.string (ofL ((is.take k).flatMap lineL))/\Below w1.heap.size w1 wr) (fun _ i _=>is.length - (intOf i).toNat)
 case atStart=>exact ⟨0,Nat.zero_le _,rfl,rfl,Below.refl _ _⟩
 obtain ⟨k,hk,rfl,rfl,hbx⟩:=hrel
 have hb:Below w.heap.size w wr:=hB1.trans (hbx.mono hB1.size)
 have hcoder:wr.cell? ⟨w.heap.size,0,none⟩=some (.slice (some ⟨b,off,none⟩) is.length cap):=(hbx.cell (p:=⟨w.heap.size,0,none⟩) (Nat.lt_of_lt_of_le (Nat.lt_succ_self _) hz1)).trans hcode
 have hL:((is.take k).flatMap lineL).length<=911*40:=by
  have h1:=lines_len (is.take k) (take_all HALL.out k)
  have h2:(is.take k).length<=40:=by rw [List.length_take];omega
  omega
 by_cases hlt:k<is.length
 rotate_left
 · have HT:Hid ((is.take k).flatMap lineL=is.flatMap lineL):=by rw [List.take_of_length_le (by omega)];rfl
   have HV:Hid (formL is=if (is.flatMap lineL).length<=300 then is.flatMap lineL else []):=by unfold formL;simp only [HOK.out,true_and];trivial
   rw [HT.out] at hL ⊢
   generalize is.flatMap lineL=l at*
   have s0:(ofL l).size=l.length:=ofL_size l
   by_cases h300:300<l.length
   · go_wp2
     go_ret
     exact ⟨ret_str (by rw [HV.out,if_neg (by omega)];rfl),hb⟩
   go_wp2
   go_ret
   exact ⟨ret_str (by rw [HV.out,if_pos (by omega)]),hb⟩
 have g0:=(hb.cell (p:=⟨b,off+k*3,none⟩) hbw).trans (HCE.out k hlt).1
 have g1:=(hb.cell (p:=⟨b,off+k*3+1,none⟩) hbw).trans (HCE.out k hlt).2.1
 have g2:=(hb.cell (p:=⟨b,off+k*3+2,none⟩) hbw).trans (HCE.out k hlt).2.2
 have HG:Hid (okI (is.getD k i3z)=true):=get_ok HALL.out hlt
 have HS:Hid ((is.take (k+1)).flatMap lineL=(is.take k).flatMap lineL++lineL (is.getD k i3z)):=flat_snoc hlt
 have hxs:=hs k
 generalize is.getD k i3z=x at*
 generalize (is.take k).flatMap lineL=l at*
 obtain ⟨l1,l2,l3,l4⟩:=line_len HG.out
 obtain ⟨ho,_,_,h4,h5,h6⟩:=okI_bad HG.out
 obtain ⟨m,hm⟩:=Int.eq_ofNat_of_zero_le h4
 have hm':m<100:=by omega
 have s0:(ofL l).size<=911*40:=by rw [ofL_size];exact hL
 have s1:(wordA x.op).size<=4:=by rw [wordA_ofL,ofL_size];exact l1
 have s2:(ofL (Lib.decDigits m)).size<=2:=by rw [ofL_size];exact decLen m hm'
 have s3:(ofL (quoteL x.tx.data.toList)).size<=902:=by
  have:=quote_len x.tx.data.toList
  have e:x.tx.data.toList.length=x.tx.size:=by simp
  rw [ofL_size];omega
 have HM:Hid (x.to=(m:Int)):=hm
 have HLine:Hid (lineL x=word x.op++toL x++txL x++[10]):=rfl
 clear hm l2 l3 l4 h4 h5
 go_wp2_with fail
 refine (c119 x.op _).mono ?_
 rintro e w2 ⟨rfl,hw2⟩
 obtain rfl:=hw2.symm
 go_wp2_with fail
 refine (c118 x.op _).mono ?_
 rintro e w2 ⟨rfl,hb2⟩
 have p0:w2.cell? ⟨wr.heap.size,0,none⟩=some (.int .i64 x.op):=(hb2.cell (p:=⟨wr.heap.size,0,none⟩) (by simp)).trans (by simp [go_sem])
 have p1:w2.cell? ⟨wr.heap.size,1,none⟩=some (.string x.tx):=(hb2.cell (p:=⟨wr.heap.size,1,none⟩) (by simp)).trans (by simp [go_sem])
 have p2:w2.cell? ⟨wr.heap.size,2,none⟩=some (.int .i64 x.to):=(hb2.cell (p:=⟨wr.heap.size,2,none⟩) (by simp)).trans (by simp [go_sem])
 have hbx2:Below w1.heap.size w1 w2:=(hbx.alloc hbx.size _).trans (hb2.mono (by have:=hbx.size;simp;omega))
 have hz2:wr.heap.size+1<=w2.heap.size:=by have:=hb2.size;simp at this;omega
 clear hb2 g0 g1 g2 hbx
 cases hO:usesTo x.op <;> cases hX:usesTx x.op
 · have HT1:Hid (toL x=[]):=to_no hO
   have HT2:Hid (txL x=[]):=tx_no hX
   clear hO hX
   go_wp2
   go_roundw
   case rel=>exact ⟨k+1,by omega,by go_num,by rw [HS.out,HLine.out,HT1.out,HT2.out];simp only [wordA_ofL,one_ofL,cat_ofL];simp,hbx2⟩
   case measure=>simp [intOf];omega
 · have HT1:Hid (toL x=[]):=to_no hO
   have HT2:Hid (txL x=32::quoteL x.tx.data.toList):=tx_yes hX
   clear hO hX
   go_wp2_with fail
   refine (c112' x.tx _ hxs).mono ?_
   rintro e w3 ⟨rfl,hb3⟩
   have hbx3:Below w1.heap.size w1 w3:=hbx2.trans (hb3.mono hbx2.size)
   go_wp2
   go_roundw
   case rel=>exact ⟨k+1,by omega,by go_num,by rw [HS.out,HLine.out,HT1.out,HT2.out];simp only [wordA_ofL,one_ofL,cat_ofL];simp,hbx3⟩
   case measure=>simp [intOf];omega
 · have HT1:Hid (toL x=32::Lib.decDigits m):=by rw [to_yes hO,HM.out];rfl
   have HT2:Hid (txL x=[]):=tx_no hX
   clear hO hX
   go_wp2_with fail
   rw [HM.out]
   refine (c116 m _ hm').mono ?_
   rintro e w3 ⟨rfl,hb3⟩
   have hbx3:Below w1.heap.size w1 w3:=hbx2.trans (hb3.mono hbx2.size)
   go_wp2
   go_roundw
   case rel=>exact ⟨k+1,by omega,by go_num,by rw [HS.out,HLine.out,HT1.out,HT2.out];simp only [wordA_ofL,one_ofL,cat_ofL];simp,hbx3⟩
   case measure=>simp [intOf];omega
 have HT1:Hid (toL x=32::Lib.decDigits m):=by rw [to_yes hO,HM.out];rfl
 have HT2:Hid (txL x=32::quoteL x.tx.data.toList):=tx_yes hX
 clear hO hX
 go_wp2_with fail
 rw [HM.out]
 refine (c116 m _ hm').mono ?_
 rintro e w3 ⟨rfl,hb3⟩
 have hbx3:Below w1.heap.size w1 w3:=hbx2.trans (hb3.mono hbx2.size)
 have q1:w3.cell? ⟨wr.heap.size,1,none⟩=some (.string x.tx):=(hb3.cell (p:=⟨wr.heap.size,1,none⟩) (Nat.lt_of_lt_of_le (Nat.lt_succ_self _) hz2)).trans p1
 go_wp2_with fail
 refine (c112' x.tx _ hxs).mono ?_
 rintro e w4 ⟨rfl,hb4⟩
 have hbx4:Below w1.heap.size w1 w4:=hbx3.trans (hb4.mono hbx3.size)
 go_wp2
 go_roundw
 case rel=>exact ⟨k+1,by omega,by go_num,by rw [HS.out,HLine.out,HT1.out,HT2.out];simp only [wordA_ofL,one_ofL,cat_ofL];simp,hbx4⟩
 case measure=>simp [intOf];omega
