import Derived.Test.YtmalddmgdjkgaaaGreatDoorT8
namespace Go.Proofs.YtmalddmgdjkgaaaGreatDoor
open Go.RowKit
theorem to_yes {x:I3} (h:usesTo x.op=true):toL x=32::Lib.decDigits x.to.toNat:=by unfold toL;rw [if_pos h]
theorem to_no {x:I3} (h:usesTo x.op=false):toL x=[]:=by unfold toL;rw [if_neg (by simp [h])]
theorem tx_yes {x:I3} (h:usesTx x.op=true):txL x=32::quoteL x.tx.data.toList:=by unfold txL;rw [if_pos h]
theorem tx_no {x:I3} (h:usesTx x.op=false):txL x=[]:=by unfold txL;rw [if_neg (by simp [h])]
set_option maxHeartbeats 4000000 in
theorem c89 (a:Option Addr) (cap:Nat) (is:List I3) (w:World) (hs:∀ i,(is.getD i i3z).tx.size≤1048700) (hl:is.length≤1048576) (hat:InsAt w a is):
 Calls Tryz.prog 89 #[.agg #[.slice a is.length cap]] w fun e w'=>e=.returned (.string (ofL (formL is)))∧Below w.heap.size w w':=by
 have HAT:Hid (InsAt w a is):=hat
 have hB0:Below w.heap.size w (w.alloc (.cells #[.slice a is.length cap] 127)):=(Below.refl _ _).alloc (Nat.le_refl _) _
 clear hat
 go_enter Tryz.func89,Tryz.ntmps89
 go_wp2_with fail
 refine (c82 a cap is _ hs hl (ins_below HAT.out hB0)).mono ?_
 rintro e w1 ⟨rfl,hb1⟩
 have hB1:Below w.heap.size w w1:=hB0.trans (hb1.mono hB0.size)
 have hcode:w1.cell? ⟨w.heap.size,0,none⟩=some (.slice a is.length cap):=(hb1.cell (p:=⟨w.heap.size,0,none⟩) (by simp)).trans (by simp [go_sem])
 have hz1:w.heap.size+1≤w1.heap.size:=by have:=hb1.size;simp at this;omega
 clear hb1
 cases hok:okT is
 · have HN:Hid (formL is=[]):=by unfold formL;rw [if_neg (by simp [hok])];rfl
   clear hok
   go_wp2
   go_ret
   exact ⟨ret_str (by rw [HN.out];rfl),hB1⟩
 obtain ⟨⟨hn1,hn2⟩,hall⟩:=okT_facts hok
 have HALL:Hid (is.all okI=true):=hall
 have HOK:Hid (okT is=true):=hok
 clear hok hall
 obtain ⟨b,off,hc⟩:=ins_some HAT.out
 rcases hc with hc | ⟨rfl,hbw,hcell⟩
 · rw [hc] at hn1;simp at hn1
 have HCE:Hid (∀ i,i<is.length→w.cell? ⟨b,off+i*3,none⟩=some (.int .i64 (is.getD i i3z).op)∧w.cell? ⟨b,off+i*3+1,none⟩=some (.string (is.getD i i3z).tx)∧w.cell? ⟨b,off+i*3+2,none⟩=some (.int .i64 (is.getD i i3z).to)):=hcell
 clear hcell
 go_wp2_with fail
 go_loopw [3,4] (fun o i wr=>∃ (k:Nat),k≤is.length∧i=.int .i64 k∧o=.string (ofL ((is.take k).flatMap lineL))∧Below w1.heap.size w1 wr) (fun _ i _=>is.length - (intOf i).toNat)
 case atStart=>exact ⟨0,Nat.zero_le _,rfl,rfl,Below.refl _ _⟩
 case round=>
  obtain ⟨k,hk,rfl,rfl,hbx⟩:=hrel
  have hb:Below w.heap.size w wr:=hB1.trans (hbx.mono hB1.size)
  have hcoder:wr.cell? ⟨w.heap.size,0,none⟩=some (.slice (some ⟨b,off,none⟩) is.length cap):=(hbx.cell (p:=⟨w.heap.size,0,none⟩) (Nat.lt_of_lt_of_le (Nat.lt_succ_self _) hz1)).trans hcode
  have hL:((is.take k).flatMap lineL).length≤911*40:=by
   have h1:=lines_len (is.take k) (take_all HALL.out k)
   have h2:(is.take k).length≤40:=by rw [List.length_take];omega
   omega
  by_cases hlt:k<is.length
  · have g0:=(hb.cell (p:=⟨b,off+k*3,none⟩) hbw).trans (HCE.out k hlt).1
    have g1:=(hb.cell (p:=⟨b,off+k*3+1,none⟩) hbw).trans (HCE.out k hlt).2.1
    have g2:=(hb.cell (p:=⟨b,off+k*3+2,none⟩) hbw).trans (HCE.out k hlt).2.2
    have HG:Hid (okI (is.getD k i3z)=true):=get_ok HALL.out hlt
    have HS:Hid ((is.take (k+1)).flatMap lineL=(is.take k).flatMap lineL++lineL (is.getD k i3z)):=flat_snoc hlt
    have hxs:=hs k
    generalize is.getD k i3z=x at*
    generalize (is.take k).flatMap lineL=l at*
    obtain ⟨l1,l2,l3,l4⟩:=line_len HG.out
    obtain ⟨ho,_,_,h4,h5,h6⟩:=okI_bad HG.out
    obtain ⟨m,hm⟩:=Int.eq_ofNat_of_zero_le h4
    have hm':m<100:=by omega
    have s0:(ofL l).size≤911*40:=by rw [ofL_size];exact hL
    have s1:(wordA x.op).size≤4:=by rw [wordA_ofL,ofL_size];exact l1
    have s2:(ofL (Lib.decDigits m)).size≤2:=by rw [ofL_size];exact decLen m hm'
    have s3:(ofL (quoteL x.tx.data.toList)).size≤902:=by
     have:=quote_len x.tx.data.toList
     have e:x.tx.data.toList.length=x.tx.size:=by simp
     rw [ofL_size];omega
    have HM:Hid (x.to=(m:Int)):=hm
    have HLine:Hid (lineL x=word x.op++toL x++txL x++[10]):=rfl
    clear hm l2 l3 l4 h4 h5
    go_wp2_with fail
    refine (c87 x.op _).mono ?_
    rintro e w2 ⟨rfl,hw2⟩
    obtain rfl:=hw2.symm
    go_wp2_with fail
    refine (c86 x.op _).mono ?_
    rintro e w2 ⟨rfl,hb2⟩
    have p0:w2.cell? ⟨wr.heap.size,0,none⟩=some (.int .i64 x.op):=(hb2.cell (p:=⟨wr.heap.size,0,none⟩) (by simp)).trans (by simp [go_sem])
    have p1:w2.cell? ⟨wr.heap.size,1,none⟩=some (.string x.tx):=(hb2.cell (p:=⟨wr.heap.size,1,none⟩) (by simp)).trans (by simp [go_sem])
    have p2:w2.cell? ⟨wr.heap.size,2,none⟩=some (.int .i64 x.to):=(hb2.cell (p:=⟨wr.heap.size,2,none⟩) (by simp)).trans (by simp [go_sem])
    have hbx2:Below w1.heap.size w1 w2:=(hbx.alloc hbx.size _).trans (hb2.mono (by have:=hbx.size;simp;omega))
    have hz2:wr.heap.size+1≤w2.heap.size:=by have:=hb2.size;simp at this;omega
    clear hb2 g0 g1 g2 hbx
    cases hO:usesTo x.op <;> cases hX:usesTx x.op
    · have HT1:Hid (toL x=[]):=to_no hO
      have HT2:Hid (txL x=[]):=tx_no hX
      clear hO hX
      go_wp2
      go_roundw
      case rel=>exact ⟨k+1,by omega,by go_num,by rw [HS.out,HLine.out,HT1.out,HT2.out];simp only [wordA_ofL,one_ofL,cat_ofL];simp,hbx2⟩
      case measure=>simp [intOf];omega
    · have HT1:Hid (toL x=[]):=to_no hO
      have HT2:Hid (txL x=32::quoteL x.tx.data.toList):=tx_yes hX
      clear hO hX
      go_wp2_with fail
      refine (c80' x.tx _ hxs).mono ?_
      rintro e w3 ⟨rfl,hb3⟩
      have hbx3:Below w1.heap.size w1 w3:=hbx2.trans (hb3.mono hbx2.size)
      go_wp2
      go_roundw
      case rel=>exact ⟨k+1,by omega,by go_num,by rw [HS.out,HLine.out,HT1.out,HT2.out];simp only [wordA_ofL,one_ofL,cat_ofL];simp,hbx3⟩
      case measure=>simp [intOf];omega
    · have HT1:Hid (toL x=32::Lib.decDigits m):=by rw [to_yes hO,HM.out];rfl
      have HT2:Hid (txL x=[]):=tx_no hX
      clear hO hX
      go_wp2_with fail
      rw [HM.out]
      refine (c84 m _ hm').mono ?_
      rintro e w3 ⟨rfl,hb3⟩
      have hbx3:Below w1.heap.size w1 w3:=hbx2.trans (hb3.mono hbx2.size)
      go_wp2
      go_roundw
      case rel=>exact ⟨k+1,by omega,by go_num,by rw [HS.out,HLine.out,HT1.out,HT2.out];simp only [wordA_ofL,one_ofL,cat_ofL];simp,hbx3⟩
      case measure=>simp [intOf];omega
    have HT1:Hid (toL x=32::Lib.decDigits m):=by rw [to_yes hO,HM.out];rfl
    have HT2:Hid (txL x=32::quoteL x.tx.data.toList):=tx_yes hX
    clear hO hX
    go_wp2_with fail
    rw [HM.out]
    refine (c84 m _ hm').mono ?_
    rintro e w3 ⟨rfl,hb3⟩
    have hbx3:Below w1.heap.size w1 w3:=hbx2.trans (hb3.mono hbx2.size)
    have q1:w3.cell? ⟨wr.heap.size,1,none⟩=some (.string x.tx):=(hb3.cell (p:=⟨wr.heap.size,1,none⟩) (Nat.lt_of_lt_of_le (Nat.lt_succ_self _) hz2)).trans p1
    go_wp2_with fail
    refine (c80' x.tx _ hxs).mono ?_
    rintro e w4 ⟨rfl,hb4⟩
    have hbx4:Below w1.heap.size w1 w4:=hbx3.trans (hb4.mono hbx3.size)
    go_wp2
    go_roundw
    case rel=>exact ⟨k+1,by omega,by go_num,by rw [HS.out,HLine.out,HT1.out,HT2.out];simp only [wordA_ofL,one_ofL,cat_ofL];simp,hbx4⟩
    case measure=>simp [intOf];omega
  have HT:Hid ((is.take k).flatMap lineL=is.flatMap lineL):=by rw [List.take_of_length_le (by omega)];rfl
  have HV:Hid (formL is=if (is.flatMap lineL).length≤300 then is.flatMap lineL else []):=by unfold formL;simp only [HOK.out,true_and];trivial
  rw [HT.out] at hL ⊢
  generalize is.flatMap lineL=l at*
  have s0:(ofL l).size=l.length:=ofL_size l
  by_cases h300:300<l.length
  · go_wp2
    go_ret
    exact ⟨ret_str (by rw [HV.out,if_neg (by omega)];rfl),hb⟩
  go_wp2
  go_ret
  exact ⟨ret_str (by rw [HV.out,if_pos (by omega)]),hb⟩
end Go.Proofs.YtmalddmgdjkgaaaGreatDoor
