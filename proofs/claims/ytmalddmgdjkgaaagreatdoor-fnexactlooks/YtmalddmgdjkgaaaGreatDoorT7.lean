import Derived.Test.YtmalddmgdjkgaaaGreatDoorT5
import Derived.Test.YtmalddmgdjkgaaaGreatDoorZ07
namespace Go.Proofs.YtmalddmgdjkgaaaGreatDoor
open Go.RowKit
theorem ret_bb {a b x y:Bool} (h:a=b) (h':x=y):Ending.returned (.tuple #[.bool a,.bool x])=.returned (.tuple #[.bool b,.bool y]):=by rw [h,h']
set_option maxHeartbeats 1000000 in
theorem c87 (op:Int) (w:World):
 Calls Tryz.prog 87 #[.int .i64 op] w fun e w'=>e=.returned (.tuple #[.bool (usesTx op),.bool (usesTo op)])∧w'=w:=by
 go_enter Tryz.func87,Tryz.ntmps87
 go_wp2
 all_goals go_ret2
 all_goals refine ⟨ret_bb ?_ ?_,rfl⟩
 all_goals simp only [usesTx,usesTo]
 all_goals first | rfl | (simp_all;done) | (simp_all;omega)
theorem word_cell (op:Nat) (h1:1≤op) (h2:op≤11) (u:World):(u.alloc (.cells #[.string ⟨#[]⟩,.string ⟨#[108,105,116]⟩,.string ⟨#[97,114,103]⟩,.string ⟨#[97,115,107]⟩,.string ⟨#[104,97,115]⟩,.string ⟨#[112,117,116]⟩,.string ⟨#[99,97,116]⟩,.string ⟨#[108,105,110,101]⟩,.string ⟨#[105,102]⟩,.string ⟨#[103,111]⟩,.string ⟨#[101,110,100]⟩,.string ⟨#[102,97,105,108]⟩] 9)).cell? ⟨u.heap.size,op,none⟩=some (.string (wordA op)):=by
 obtain rfl | rfl | rfl | rfl | rfl | rfl | rfl | rfl | rfl | rfl | rfl:op=1∨op=2∨op=3∨op=4∨op=5∨op=6∨op=7∨op=8∨op=9∨op=10∨op=11:=by omega
 all_goals simp [wordA,word]
set_option maxHeartbeats 1000000 in
theorem c86_in (op:Nat) (w:World) (h1:1≤op) (h2:op≤11):
 Calls Tryz.prog 86 #[.int .i64 op] w fun e w'=>e=.returned (.string (wordA op))∧Below w.heap.size w w':=by
 have hd:decide ((1:Int)≤(op:Int)∧(op:Int)≤11)=true:=by simp;omega
 have hc:=word_cell op h1 h2
 go_enter Tryz.func86,Tryz.ntmps86
 go_wp2_with fail
 refine (c29 _ _ _ _).mono ?_
 rintro e w' ⟨rfl,hw⟩
 obtain rfl:=hw.symm
 rw [hd]
 go_wp2
 go_ret
 exact ⟨rfl,(Below.refl _ _).alloc (Nat.le_refl _) _⟩
theorem word_out (op:Int) (h:¬ (1≤op∧op≤11)):word op=[]:=by
 unfold word
 repeat (rw [if_neg (by omega)])
theorem word_in (op:Int) (h:1≤op∧op≤11):word op≠[]∧(word op).length≤4:=by
 obtain rfl | rfl | rfl | rfl | rfl | rfl | rfl | rfl | rfl | rfl | rfl:op=1∨op=2∨op=3∨op=4∨op=5∨op=6∨op=7∨op=8∨op=9∨op=10∨op=11:=by omega
 all_goals decide
set_option maxHeartbeats 1000000 in
theorem c86 (op:Int) (w:World):
 Calls Tryz.prog 86 #[.int .i64 op] w fun e w'=>e=.returned (.string (wordA op))∧Below w.heap.size w w':=by
 by_cases h:1≤op∧op≤11
 · obtain ⟨n,rfl⟩:=Int.eq_ofNat_of_zero_le (show 0≤op by omega)
   exact c86_in n w (by omega) (by omega)
 have hd:decide (1≤op∧op≤11)=false:=by simpa using h
 have HW:Hid (wordA op=⟨#[]⟩):=by unfold wordA;rw [word_out op h];rfl
 go_enter Tryz.func86,Tryz.ntmps86
 go_wp2_with fail
 refine (c29 _ _ _ _).mono ?_
 rintro e w' ⟨rfl,rfl⟩
 rw [hd]
 go_wp2
 go_ret
 exact ⟨by rw [HW.out];rfl,Below.refl _ _⟩
theorem okI_bad {x:I3} (h:okI x=true):(1≤x.op∧x.op≤11)∧(usesTo x.op=true∨x.to=0)∧(usesTx x.op=true∨x.tx.toList.isEmpty=true)∧0≤x.to∧x.to≤40∧(x.tx.size:Int)≤300:=by
 unfold okI at h
 simp only [Bool.and_eq_true,Bool.or_eq_true,decide_eq_true_eq,beq_iff_eq] at h
 exact ⟨h.1.1.1.1,h.1.1.1.2,h.1.1.2,h.1.2.1,h.1.2.2,h.2⟩
theorem okI_mk {x:I3} (h1:1≤x.op∧x.op≤11) (h2:usesTo x.op=true∨x.to=0) (h3:usesTx x.op=true∨x.tx.toList.isEmpty=true) (h4:0≤x.to) (h5:x.to≤40) (h6:(x.tx.size:Int)≤300):okI x=true:=by
 unfold okI
 simp only [Bool.and_eq_true,Bool.or_eq_true,decide_eq_true_eq,beq_iff_eq]
 exact ⟨⟨⟨⟨h1,h2⟩,h3⟩,h4,h5⟩,h6⟩
theorem wordA_empty (op:Int):(wordA op).toList.isEmpty=!decide (1≤op∧op≤11):=by
 rw [ByteArray.toList_eq]
 by_cases h:1≤op∧op≤11
 · rw [show decide (1≤op∧op≤11)=true by simpa using h]
   have:=(word_in op h).1
   cases hw:word op with
   | nil=>exact absurd hw this
   | cons a r=>simp [wordA,hw]
 rw [show decide (1≤op∧op≤11)=false by simpa using h]
 simp [wordA,word_out op h]
set_option maxHeartbeats 4000000 in
theorem c82 (a:Option Addr) (cap:Nat) (is:List I3) (w:World) (hs:∀ i,(is.getD i i3z).tx.size≤1048700) (hl:is.length≤1048576) (hat:InsAt w a is):
 Calls Tryz.prog 82 #[.agg #[.slice a is.length cap]] w fun e w'=>e=.returned (.bool (okT is))∧Below w.heap.size w w':=by
 by_cases hn:1≤is.length∧is.length≤40
 · have HO:Hid (okT is=is.all okI):=by unfold okT;rw [show decide (1≤is.length∧is.length≤40)=true by simpa using hn];rfl
   have hd:decide ((1:Int)≤(is.length:Int)∧(is.length:Int)≤40)=true:=by simp;omega
   obtain ⟨hn1,hn2⟩:=hn
   obtain ⟨b,off,hc⟩:=ins_some hat
   rcases hc with hc | ⟨rfl,hbw,hcell⟩
   · rw [hc] at hn1;simp at hn1
   clear hat
   go_enter Tryz.func82,Tryz.ntmps82
   go_wp2_with fail
   refine (c29 _ _ _ _).mono ?_
   rintro e w0 ⟨rfl,hw0⟩
   obtain rfl:=hw0.symm
   rw [hd]
   go_wp2_with fail
   go_loopw [3] (fun i wr=>∃ (k:Nat),k≤is.length∧i=.int .i64 k∧Below (w.heap.size+1) (w.alloc (.cells #[.slice (some ⟨b,off,none⟩) is.length cap] 127)) wr∧Hid ((is.take k).all okI=true)) (fun i _=>is.length - (intOf i).toNat)
   case atStart=>exact ⟨0,Nat.zero_le _,rfl,Below.refl _ _,rfl⟩
   case round=>
    obtain ⟨k,hk,rfl,hbx,hall⟩:=hrel
    have hb:Below w.heap.size w wr:=((Below.refl w.heap.size w).alloc (Nat.le_refl _) _).trans (hbx.mono (by omega))
    have hcode:wr.cell? ⟨w.heap.size,0,none⟩=some (.slice (some ⟨b,off,none⟩) is.length cap):=(hbx.cell (p:=⟨w.heap.size,0,none⟩) (by simp)).trans (by simp [go_sem])
    by_cases hlt:k<is.length
    · have g0:=(hb.cell (p:=⟨b,off+k*3,none⟩) hbw).trans (hcell k hlt).1
      have g1:=(hb.cell (p:=⟨b,off+k*3+1,none⟩) hbw).trans (hcell k hlt).2.1
      have g2:=(hb.cell (p:=⟨b,off+k*3+2,none⟩) hbw).trans (hcell k hlt).2.2
      have hxs:=hs k
      generalize hx:is.getD k i3z=x at*
      have HX:Hid (is.getD k i3z=x):=hx
      clear hx
      have HCE:Hid (∀ i,i<is.length→w.cell? ⟨b,off+i*3,none⟩=some (.int .i64 (is.getD i i3z).op)∧w.cell? ⟨b,off+i*3+1,none⟩=some (.string (is.getD i i3z).tx)∧w.cell? ⟨b,off+i*3+2,none⟩=some (.int .i64 (is.getD i i3z).to)):=hcell
      have hzr:w.heap.size+1≤wr.heap.size:=by have:=hbx.size;simp at this;omega
      clear hcell
      go_wp2_with fail
      refine (c87 x.op _).mono ?_
      rintro e w1 ⟨rfl,hw1⟩
      obtain rfl:=hw1.symm
      go_wp2_with fail
      refine (c86 x.op _).mono ?_
      rintro e w1 ⟨rfl,hb1⟩
      have he:=wordA_empty x.op
      have p0:w1.cell? ⟨wr.heap.size,0,none⟩=some (.int .i64 x.op):=(hb1.cell (p:=⟨wr.heap.size,0,none⟩) (by simp)).trans (by simp [go_sem])
      have p1:w1.cell? ⟨wr.heap.size,1,none⟩=some (.string x.tx):=(hb1.cell (p:=⟨wr.heap.size,1,none⟩) (by simp)).trans (by simp [go_sem])
      have p2:w1.cell? ⟨wr.heap.size,2,none⟩=some (.int .i64 x.to):=(hb1.cell (p:=⟨wr.heap.size,2,none⟩) (by simp)).trans (by simp [go_sem])
      have hBx:Below (w.heap.size+1) (w.alloc (.cells #[.slice (some ⟨b,off,none⟩) is.length cap] 127)) w1:=(hbx.alloc hzr _).trans (hb1.mono (by simp;omega))
      have hB1:Below w.heap.size w w1:=((Below.refl w.heap.size w).alloc (Nat.le_refl _) _).trans (hBx.mono (by omega))
      clear hcode hb hbx hb1 g0 g1 g2
      cases hok:okI x
      · have HN:Hid (okT is=false):=by rw [HO.out];exact all_not hlt (by rw [HX.out];exact hok)
        have HK:Hid (okI x=false):=hok
        clear hok
        go_wp2_with (go_at_call 29;refine (c29 _ _ _ _).mono ?_;rintro e w2 ⟨rfl,rfl⟩)
        all_goals first
         | (go_ret;exact ⟨ret_bool HN.out.symm,hB1⟩)
         | (exfalso;refine Bool.false_ne_true (HK.out.symm.trans (okI_mk ?_ ?_ ?_ ?_ ?_ ?_)))
        all_goals first
         | assumption
         | exact .inl (by assumption)
         | exact .inr (by assumption)
         | exact .inr (by rw [show x.tx.toList=[] by assumption];rfl)
         | (have hh:(x.tx.size:Int)≤300∧(!decide (0≤x.to))=false∧(!decide (x.to≤40))=false:=by assumption
            simp only [Bool.not_eq_false',decide_eq_true_eq] at hh
            omega)
         | omega
      have hall':Hid ((is.take (k+1)).all okI=true):=all_snoc hlt hall.out (by rw [HX.out];exact hok)
      obtain ⟨o1,o2,o3,o4,o5,o6⟩:=okI_bad hok
      have hd1:decide (1≤x.op∧x.op≤11)=true:=by simpa using o1
      have hd2:decide (0≤x.to∧x.to≤40)=true:=by simpa using ⟨o4,o5⟩
      clear hok
      rcases o2 with o2 | o2 <;> rcases o3 with o3 | o3
      all_goals
       go_wp2_with (go_at_call 29;refine (c29 _ _ _ _).mono ?_;rintro e w2 ⟨rfl,rfl⟩)
       all_goals go_roundw
       all_goals first
        | exact ⟨k+1,by omega,by go_num,hBx,hall'⟩
        | (simp [intOf];omega)
    have HN:Hid (okT is=true):=by rw [HO.out];have:=hall.out;rwa [List.take_of_length_le (by omega)] at this
    go_wp2
    go_ret
    exact ⟨ret_bool HN.out.symm,hb⟩
 have HO:Hid (okT is=false):=by unfold okT;rw [show decide (1≤is.length∧is.length≤40)=false by simpa using hn];rfl
 have hd:decide ((1:Int)≤(is.length:Int)∧(is.length:Int)≤40)=false:=by simp only [decide_eq_false_iff_not];omega
 clear hat
 go_enter Tryz.func82,Tryz.ntmps82
 go_wp2_with fail
 refine (c29 _ _ _ _).mono ?_
 rintro e w0 ⟨rfl,hw0⟩
 obtain rfl:=hw0.symm
 rw [hd]
 go_wp2
 go_ret
 exact ⟨ret_bool HO.out.symm,(Below.refl _ _).alloc (Nat.le_refl _) _⟩
end Go.Proofs.YtmalddmgdjkgaaaGreatDoor
