import Derived.Test.YtmalddmgdjkgaaaGreatDoorZ03
namespace Go.Proofs.YtmalddmgdjkgaaaGreatDoor
open Go.RowKit
def usesTo (op:Int):Bool:=op==7 || op==8 || op==9
def usesTx (op:Int):Bool:=op==1 || op==6 || op==8
def okI (x:I3):Bool:=decide (1≤x.op∧x.op≤11)&&(usesTo x.op || x.to==0)&&(usesTx x.op || x.tx.toList.isEmpty)&&decide (0≤x.to∧x.to≤40)&&decide ((x.tx.size:Int)≤300)
def word (op:Int):List UInt8:=if op=1 then [108,105,116] else if op=2 then [97,114,103] else if op=3 then [97,115,107] else if op=4 then [104,97,115] else if op=5 then [112,117,116] else if op=6 then [99,97,116] else if op=7 then [108,105,110,101] else if op=8 then [105,102] else if op=9 then [103,111] else if op=10 then [101,110,100] else if op=11 then [102,97,105,108] else []
def wordA (op:Int):ByteArray:=⟨(word op).toArray⟩
def ShapesAt (w:World):Prop:=∀ op:Nat,1≤op→op≤11→w.cell? ⟨9,op*3,none⟩=some (.string (wordA op))∧w.cell? ⟨9,op*3+1,none⟩=some (.bool (usesTo op))∧w.cell? ⟨9,op*3+2,none⟩=some (.bool (usesTx op))
theorem shapes_pos {w:World} (h:ShapesAt w):9<w.heap.size:=by
 obtain ⟨a,_⟩:=h 1 (by omega) (by omega)
 rcases Nat.lt_or_ge 9 w.heap.size with h | h
 · exact h
 simp [World.cell?,Array.getElem?_eq_none h] at a
theorem cell_past {w:World} {j:Nat} {v:Value} (h0:9<w.heap.size) (h:w.cell? ⟨9,j,none⟩=some v):∀ o,(w.alloc o).cell? ⟨9,j,none⟩=some v:=fun o=>by
 rw [((Below.refl w.heap.size w).alloc (Nat.le_refl _) o).cell (by exact h0)];exact h
theorem shapes_below {w w':World} (h:ShapesAt w) (hb:Below w.heap.size w w'):ShapesAt w':=by
 intro op h1 h2
 obtain ⟨a,b,c⟩:=h op h1 h2
 have h0:9<w.heap.size:=by
  rcases Nat.lt_or_ge 9 w.heap.size with h | h
  · exact h
  simp [World.cell?,Array.getElem?_eq_none h] at a
 rw [hb.cell (by exact h0),hb.cell (by exact h0),hb.cell (by exact h0)]
 exact ⟨a,b,c⟩
set_option maxHeartbeats 1000000 in
theorem c117_in (op:Nat) (tx:ByteArray) (to:Int) (w:World) (_hs:tx.size≤1048700) (h1:1≤op) (h2:op≤11) (hsh:ShapesAt w):
 Calls Tryz.prog 117 #[.agg #[.int .i64 op,.string tx,.int .i64 to]] w fun e w'=>e=.returned (.bool (okI ⟨op,tx,to⟩))∧Below w.heap.size w w':=by
 obtain ⟨a0,b0,c0⟩:=hsh op h1 h2
 have h0:=shapes_pos hsh
 have a:=cell_past h0 a0
 have b:=cell_past h0 b0
 have c:=cell_past h0 c0
 clear hsh a0 b0 c0
 have HO:Hid (okI ⟨op,tx,to⟩=((usesTo op || to==0)&&(usesTx op || tx.toList.isEmpty)&&decide (0≤to∧to≤40)&&decide ((tx.size:Int)≤300))):=by
  unfold okI;simp only [show decide ((1:Int)≤(op:Int)∧(op:Int)≤11)=true by simp;omega,Bool.true_and];trivial
 have ho1:(1:Int)≤(op:Int):=by omega
 have ho2:(op:Int)≤11:=by omega
 generalize usesTo op=tO at*
 generalize usesTx op=tX at*
 have hB:∀ o1 o2:Obj,Below w.heap.size w ((w.alloc o1).alloc o2):=fun o1 o2=>((Below.refl _ _).alloc (Nat.le_refl _) _).alloc (by simp) _
 cases tO <;> cases tX
 all_goals
  go_enter Tryz.func117,Tryz.ntmps117
  go_wp2
  all_goals go_ret
  all_goals refine ⟨ret_bool ?_,hB _ _⟩
  all_goals rw [HO.out]
  all_goals clear a b c HO hB h1 h2 ho1 ho2
  all_goals first | (simp_all;done) | (simp_all;omega)
set_option maxHeartbeats 1000000 in
theorem c117 (x:I3) (w:World) (hs:x.tx.size≤1048700) (hsh:ShapesAt w):
 Calls Tryz.prog 117 #[.agg #[.int .i64 x.op,.string x.tx,.int .i64 x.to]] w fun e w'=>e=.returned (.bool (okI x))∧Below w.heap.size w w':=by
 by_cases h:1≤x.op∧x.op≤11
 · obtain ⟨n,hn⟩:=Int.eq_ofNat_of_zero_le (show 0≤x.op by omega)
   have:=c117_in n x.tx x.to w hs (by omega) (by omega) hsh
   rw [← hn] at this
   exact this
 have HO:Hid (okI x=false):=by unfold okI;rw [show decide (1≤x.op∧x.op≤11)=false by simpa using h];rfl
 clear hsh
 have hc:x.op<1∨11<x.op:=by omega
 rcases hc with hc | hc
 all_goals
  go_enter Tryz.func117,Tryz.ntmps117
  go_wp2
  all_goals go_ret
  all_goals exact ⟨ret_bool HO.out.symm,(Below.refl _ _).alloc (Nat.le_refl _) _⟩
def okT (is:List I3):Bool:=decide (1≤is.length∧is.length≤40)&&is.all okI
theorem all_snoc {is:List I3} {k:Nat} (h:k<is.length) (ha:(is.take k).all okI=true) (hx:okI (is.getD k i3z)=true):(is.take (k+1)).all okI=true:=by
 rw [List.take_succ_eq_append_getElem h,List.all_append,ha]
 have e:is.getD k i3z=is[k]:=by simp [h]
 rw [e] at hx
 simp [hx]
theorem all_not {is:List I3} {k:Nat} (h:k<is.length) (hx:okI (is.getD k i3z)=false):is.all okI=false:=by
 rw [List.all_eq_false]
 have e:is.getD k i3z=is[k]:=by simp [h]
 rw [e] at hx
 exact ⟨is[k],List.getElem_mem h,by simp [hx]⟩
set_option maxHeartbeats 1000000 in
theorem c102 (a:Option Addr) (cap:Nat) (is:List I3) (w:World) (hs:∀ i,(is.getD i i3z).tx.size≤1048700) (hl:is.length≤1048576) (hat:InsAt w a is) (hsh:ShapesAt w):
 Calls Tryz.prog 102 #[.agg #[.slice a is.length cap]] w fun e w'=>e=.returned (.bool (okT is))∧Below w.heap.size w w':=by
 by_cases hn:1≤is.length∧is.length≤40
 · have HO:Hid (okT is=is.all okI):=by unfold okT;rw [show decide (1≤is.length∧is.length≤40)=true by simpa using hn];rfl
   obtain ⟨hn1,hn2⟩:=hn
   have h0:=shapes_pos hsh
   have HSH:Hid (ShapesAt w):=hsh
   obtain ⟨b,off,hc⟩:=ins_some hat
   rcases hc with hc | ⟨rfl,hbw,hcell⟩
   · rw [hc] at hn1;simp at hn1
   clear hat hsh
   go_enter Tryz.func102,Tryz.ntmps102
   go_wp2_with fail
   go_loopw [18] (fun i wr=>∃ (k:Nat),k≤is.length∧i=.int .i64 k∧Below w.heap.size w wr∧Hid ((is.take k).all okI=true)) (fun i _=>is.length - (intOf i).toNat)
   case atStart=>exact ⟨0,Nat.zero_le _,rfl,(Below.refl _ _).alloc (Nat.le_refl _) _,rfl⟩
   case round=>
    obtain ⟨k,hk,rfl,hb,hall⟩:=hrel
    by_cases hlt:k<is.length
    · have g0:=(hb.cell (p:=⟨b,off+k*3,none⟩) hbw).trans (hcell k hlt).1
      have g1:=(hb.cell (p:=⟨b,off+k*3+1,none⟩) hbw).trans (hcell k hlt).2.1
      have g2:=(hb.cell (p:=⟨b,off+k*3+2,none⟩) hbw).trans (hcell k hlt).2.2
      have hxs:=hs k
      generalize hx:is.getD k i3z=x at*
      have HX:Hid (is.getD k i3z=x):=hx
      clear hx
      have HCE:Hid (∀ i,i<is.length→w.cell? ⟨b,off+i*3,none⟩=some (.int .i64 (is.getD i i3z).op)∧w.cell? ⟨b,off+i*3+1,none⟩=some (.string (is.getD i i3z).tx)∧w.cell? ⟨b,off+i*3+2,none⟩=some (.int .i64 (is.getD i i3z).to)):=hcell
      clear hcell
      go_wp2_with fail
      refine (c117 x _ hxs (shapes_below HSH.out (hb.alloc hb.size _))).mono ?_
      rintro e w1 ⟨rfl,hb1⟩
      have hB1:Below w.heap.size w w1:=(hb.alloc hb.size _).trans (hb1.mono (by have:=hb.size;simp;omega))
      cases hok:okI x
      · have HN:Hid (okT is=false):=by rw [HO.out];exact all_not hlt (by rw [HX.out];exact hok)
        clear hok
        go_wp2
        go_ret
        exact ⟨ret_bool HN.out.symm,hB1⟩
      have hall':Hid ((is.take (k+1)).all okI=true):=all_snoc hlt hall.out (by rw [HX.out];exact hok)
      clear hok
      go_wp2
      go_roundw
      case rel=>exact ⟨k+1,by omega,by go_num,hB1,hall'⟩
      case measure=>simp [intOf];omega
    have HN:Hid (okT is=true):=by rw [HO.out];have:=hall.out;rwa [List.take_of_length_le (by omega)] at this
    go_wp2
    go_ret
    exact ⟨ret_bool HN.out.symm,hb⟩
 have HO:Hid (okT is=false):=by unfold okT;rw [show decide (1≤is.length∧is.length≤40)=false by simpa using hn];rfl
 clear hat hsh
 by_cases h1:1≤is.length
 all_goals
  go_enter Tryz.func102,Tryz.ntmps102
  go_wp2
  all_goals go_ret
  all_goals exact ⟨ret_bool HO.out.symm,(Below.refl _ _).alloc (Nat.le_refl _) _⟩
end Go.Proofs.YtmalddmgdjkgaaaGreatDoor
