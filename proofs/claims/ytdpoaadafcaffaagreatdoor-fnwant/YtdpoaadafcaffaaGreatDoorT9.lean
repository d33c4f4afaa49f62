import Derived.Test.YtdpoaadafcaffaaGreatDoorT5
set_option maxHeartbeats 8000000
namespace Go.Proofs.YtdpoaadafcaffaaGreatDoor
open Proofs.Tryz
open Go.RowKit
theorem MF {a b x y:Bool} (h:a=b) (h':x=y):Ending.returned (.tuple #[.bool a,.bool x])=.returned (.tuple #[.bool b,.bool y]):=by rw [h,h']
theorem vI (op:Int) (w:World):
 Calls prog 96 #[.int .i64 op] w fun e w'=>e=.returned (.tuple #[.bool (N7 op),.bool (Y6 op)])/\w'=w:=by
 go_enter func96,ntmps96;go_wp2
 all_goals go_ret2
 all_goals refine ⟨MF ?_ ?_,rfl⟩
 all_goals simp only [N7,Y6]
 all_goals first | rfl | (simp_all;done) | (simp_all;omega)
theorem Px (op:Nat) (h1:1<=op) (h2:op<=11) (u:World):(u.alloc (.cells #[.string ⟨#[]⟩,.string ⟨#[108,105,116]⟩,.string ⟨#[97,114,103]⟩,.string ⟨#[97,115,107]⟩,.string ⟨#[104,97,115]⟩,.string ⟨#[112,117,116]⟩,.string ⟨#[99,97,116]⟩,.string ⟨#[108,105,110,101]⟩,.string ⟨#[105,102]⟩,.string ⟨#[103,111]⟩,.string ⟨#[101,110,100]⟩,.string ⟨#[102,97,105,108]⟩] 9)).cell? ⟨u.heap.size,op,none⟩=some (.string (Na op)):=by
 obtain rfl | rfl | rfl | rfl | rfl | rfl | rfl | rfl | rfl | rfl | rfl:op=1\/op=2\/op=3\/op=4\/op=5\/op=6\/op=7\/op=8\/op=9\/op=10\/op=11:=O0
 all_goals simp [Na,word]
theorem vG (op:Nat) (w:World) (h1:1<=op) (h2:op<=11):
 Calls prog 97 #[.int .i64 op] w fun e w'=>e=.returned (.string (Na op))/\Below w.heap.size w w':=by
 have hd:decide ((1:Int)<=(op:Int)/\(op:Int)<=11)=true:=X3;have hc:=Px op h1 h2;go_enter func97,ntmps97
 go_wp2_with fail
 refine (fC _ _ _ _).mono ?_;rintro e w' ⟨rfl,hw⟩;obtain rfl:=hw.symm;rw [hd];go_wp2;go_ret;exact ⟨rfl,bA⟩
theorem Sl (op:Int) (h:¬ (1<=op/\op<=11)):word op=[]:=by
 unfold word
 repeat (rw [if_neg O0])
theorem bv (op:Int) (h:1<=op/\op<=11):word op≠[]/\(word op).length<=4:=by
 obtain rfl | rfl | rfl | rfl | rfl | rfl | rfl | rfl | rfl | rfl | rfl:op=1\/op=2\/op=3\/op=4\/op=5\/op=6\/op=7\/op=8\/op=9\/op=10\/op=11:=O0
 all_goals decide
theorem wI (op:Int) (w:World):
 Calls prog 97 #[.int .i64 op] w fun e w'=>e=.returned (.string (Na op))/\Below w.heap.size w w':=by
 by_cases h:1<=op/\op<=11
 · obtain ⟨n,rfl⟩:=Int.eq_ofNat_of_zero_le (show 0<=op by omega)
   exact vG n w O0 O0
 have hd:decide (1<=op/\op<=11)=false:=by simpa using h
 have HW:Hid (Na op=⟨#[]⟩):=by unfold Na;rw [Sl op h];rfl
 go_enter func97,ntmps97
 go_wp2_with fail
 refine (fC _ _ _ _).mono ?_;rintro e w' ⟨rfl,rfl⟩;rw [hd];go_wp2;go_ret;exact ⟨by rw [HW.out];rfl,Below.refl _ _⟩
theorem A9 {x:I3} (h:Aa x=true):(1<=x.op/\x.op<=11)/\(Y6 x.op=true\/x.to=0)/\(N7 x.op=true\/x.tx.toList.isEmpty=true)/\0<=x.to/\x.to<=40/\(x.tx.size:Int)<=300:=by
 unfold Aa at h;simp only [Bool.and_eq_true,Bool.or_eq_true,decide_eq_true_eq,beq_iff_eq] at h;exact ⟨h.1.1.1.1,h.1.1.1.2,h.1.1.2,h.1.2.1,h.1.2.2,h.2⟩
theorem Em {x:I3} (h1:1<=x.op/\x.op<=11) (h2:Y6 x.op=true\/x.to=0) (h3:N7 x.op=true\/x.tx.toList.isEmpty=true) (h4:0<=x.to) (h5:x.to<=40) (h6:(x.tx.size:Int)<=300):Aa x=true:=by
 unfold Aa;simp only [Bool.and_eq_true,Bool.or_eq_true,decide_eq_true_eq,beq_iff_eq];exact ⟨⟨⟨⟨h1,h2⟩,h3⟩,h4,h5⟩,h6⟩
theorem Zr (op:Int):(Na op).toList.isEmpty=!decide (1<=op/\op<=11):=by
 rw [ByteArray.toList_eq];by_cases h:1<=op/\op<=11
 · rw [show decide (1<=op/\op<=11)=true by simpa using h]
   have:=(bv op h).1
   cases hw:word op with
   | nil=>exact absurd hw this
   | cons a r=>simp [Na,hw]
 rw [show decide (1<=op/\op<=11)=false by simpa using h];simp [Na,Sl op h]
theorem oI (a:Option Addr) (cap:Nat) (is:List I3) (w:World) (hs:∀ i,(is.getD i K9).tx.size<=1048700) (hl:is.length<=1048576) (hat:t_ w a is):
 Calls prog 95 #[.agg #[.slice a is.length cap]] w fun e w'=>e=.returned (.bool (Yb is))/\Below w.heap.size w w':=by
 by_cases hn:1<=is.length/\is.length<=40;rotate_left
 · have HO:Hid (Yb is=false):=by unfold Yb;rw [show decide (1<=is.length/\is.length<=40)=false by simpa using hn];rfl
   have hd:decide ((1:Int)<=(is.length:Int)/\(is.length:Int)<=40)=false:=by simp only [decide_eq_false_iff_not];omega
   clear hat;go_enter func95,ntmps95
   go_wp2_with fail
   refine (fC _ _ _ _).mono ?_;rintro e w0 ⟨rfl,hw0⟩;obtain rfl:=hw0.symm;rw [hd];go_wp2;go_ret;exact ⟨U4 HO.out.symm,bA⟩
 have HO:Hid (Yb is=is.all Aa):=by unfold Yb;rw [show decide (1<=is.length/\is.length<=40)=true by simpa using hn];rfl
 have hd:decide ((1:Int)<=(is.length:Int)/\(is.length:Int)<=40)=true:=X3;obtain ⟨hn1,hn2⟩:=hn;obtain ⟨b,off,hc⟩:=Ji hat;rcases hc with hc | ⟨rfl,hbw,hcell⟩
 · rw [hc] at hn1;simp at hn1
 clear hat;go_enter func95,ntmps95
 go_wp2_with fail
 refine (fC _ _ _ _).mono ?_;rintro e w0 ⟨rfl,hw0⟩;obtain rfl:=hw0.symm;rw [hd]
 go_wp2_with fail
 go_loopw [3] (fun i wr=>∃ (k:Nat),k<=is.length/\i=.int .i64 k/\Below (w.heap.size+1) (w.alloc (.cells #[.slice (some ⟨b,off,none⟩) is.length cap] 109)) wr/\Hid ((is.take k).all Aa=true)) (fun i _=>is.length - (intOf i).toNat)
 case atStart=>exact ⟨0,Nat.zero_le _,rfl,Below.refl _ _,rfl⟩
 obtain ⟨k,hk,rfl,hbx,hall⟩:=hrel;have hb:=((Below.refl w.heap.size w).alloc Q8 _).trans (hbx.mono O0);have hcode:wr.cell? ⟨w.heap.size,0,none⟩=some (.slice (some ⟨b,off,none⟩) is.length cap):=(hbx.cell (p:=⟨w.heap.size,0,none⟩) U0).trans (by simp [go_sem]);by_cases hlt:k<is.length;rotate_left
 · have HN:Hid (Yb is=true):=by rw [HO.out];have:=hall.out;rwa [List.take_of_length_le O0] at this
   go_wp2;go_ret;exact ⟨U4 HN.out.symm,hb⟩
 have g0:=(hb.cell (p:=⟨b,off+k*3,none⟩) hbw).trans (hcell k hlt).1;have g1:=(hb.cell (p:=⟨b,off+k*3+1,none⟩) hbw).trans (hcell k hlt).2.1;have g2:=(hb.cell (p:=⟨b,off+k*3+2,none⟩) hbw).trans (hcell k hlt).2.2;have hxs:=hs k;generalize hx:is.getD k K9=x at*;have HX:=Q0 hx;clear hx;have HCE:=Q0 hcell;have qO:w.heap.size+1<=wr.heap.size:=by have:=hbx.size;simp at this;omega
 clear hcell
 go_wp2_with fail
 refine (vI x.op _).mono ?_;rintro e w1 ⟨rfl,hw1⟩;obtain rfl:=hw1.symm
 go_wp2_with fail
 refine (wI x.op _).mono ?_;rintro e w1 ⟨rfl,hb1⟩;have he:=Zr x.op;have p0:w1.cell? ⟨wr.heap.size,0,none⟩=some (.int .i64 x.op):=(hb1.cell (p:=⟨wr.heap.size,0,none⟩) U0).trans (by simp [go_sem]);have p1:w1.cell? ⟨wr.heap.size,1,none⟩=some (.string x.tx):=(hb1.cell (p:=⟨wr.heap.size,1,none⟩) U0).trans (by simp [go_sem]);have p2:w1.cell? ⟨wr.heap.size,2,none⟩=some (.int .i64 x.to):=(hb1.cell (p:=⟨wr.heap.size,2,none⟩) U0).trans (by simp [go_sem]);have hBx:=(hbx.alloc qO _).trans (hb1.mono X3);have hB1:=((Below.refl w.heap.size w).alloc Q8 _).trans (hBx.mono O0);clear hcode hb hbx hb1 g0 g1 g2;cases hok:Aa x
 · have HN:Hid (Yb is=false):=by rw [HO.out];exact av hlt (by rw [HX.out];exact hok)
   have HK:=Q0 hok;clear hok
   go_wp2_with (go_at_call 45;refine (fC _ _ _ _).mono ?_;rintro e w2 ⟨rfl,rfl⟩)
   all_goals first
    | (go_ret;exact ⟨U4 HN.out.symm,hB1⟩)
    | (exfalso;refine Bool.false_ne_true (HK.out.symm.trans (Em ?_ ?_ ?_ ?_ ?_ ?_)))
   all_goals first
    | assumption
    | exact .inl (by assumption)
    | exact .inr (by assumption)
    | exact .inr (by rw [show x.tx.toList=[] by assumption];rfl)
    | (have hh:(x.tx.size:Int)<=300/\(!decide (0<=x.to))=false/\(!decide (x.to<=40))=false:=by assumption
       simp only [Bool.not_eq_false',decide_eq_true_eq] at hh;omega)
    | omega
 have yS:=Q0 (Mq hlt hall.out (by rw [HX.out];exact hok));obtain ⟨o1,o2,o3,o4,o5,o6⟩:=A9 hok;have hd1:decide (1<=x.op/\x.op<=11)=true:=by simpa using o1
 have hd2:decide (0<=x.to/\x.to<=40)=true:=by simpa using ⟨o4,o5⟩
 clear hok;rcases o2 with o2 | o2 <;> rcases o3 with o3 | o3
 all_goals
  go_wp2_with (go_at_call 45;refine (fC _ _ _ _).mono ?_;rintro e w2 ⟨rfl,rfl⟩)
  all_goals go_roundw
  all_goals first
   | exact ⟨k+1,O0,by go_num,hBx,yS⟩
   | (simp [intOf];omega)
variable {is:List I3} {k:Nat}
def Qg (x:I3):List UInt8:=if Y6 x.op=true then 32::Lib.decDigits x.to.toNat else []
def zh (x:I3):List UInt8:=if N7 x.op=true then 32::J4 x.tx.data.toList else []
def R7 (x:I3):List UInt8:=word x.op++Qg x++zh x++[10]
theorem Da (n:Nat) (h:n<100):(Lib.decDigits n).length<=2:=by
 by_cases h10:n<10
 · rw [Tc n h10];simp
 rw [Kk n h10,Tc (n / 10) O0];simp
theorem Vq {x:I3} (h:Aa x=true):(word x.op).length<=4/\(Qg x).length<=3/\(zh x).length<=903/\(R7 x).length<=911:=by
 obtain ⟨h1,_,_,h4,h5,h6⟩:=A9 h;have a:=(bv x.op h1).2;have b:(Qg x).length<=3:=by
  unfold Qg;split
  · have:=Da x.to.toNat O0;simp;omega
  simp
 have c:(zh x).length<=903:=by
  unfold zh;split
  · have:=Dj x.tx.data.toList
    have e:x.tx.data.toList.length=x.tx.size:=U0;simp;omega
  simp
 refine ⟨a,b,c,?_⟩;unfold R7;simp only [List.length_append,List.length_cons,List.length_nil];omega
theorem Q_ (op:Int):Na op=K3 (word op):=rfl
theorem zB (s:ByteArray) (w:World) (hs:s.size<=1048700):
 Calls Tryz.prog 98 #[.string s] w fun e w'=>e=.returned (.string (K3 (J4 s.data.toList)))/\Below w.heap.size w w':=fK s w hs
def Bb (is:List I3):List UInt8:=if Yb is=true/\(is.flatMap R7).length<=300 then is.flatMap R7 else []
theorem qx (is:List I3) (h:is.all Aa=true):(is.flatMap R7).length<=911*is.length:=by
 induction is with
 | nil=>simp
 | cons x r ih=>
  simp only [List.all_cons,Bool.and_eq_true] at h;have:=ih h.2;have h4:=(Vq h.1).2.2.2;simp only [List.flatMap_cons,List.length_append,List.length_cons];omega
theorem Kb (h:Yb is=true):(1<=is.length/\is.length<=40)/\is.all Aa=true:=by
 unfold Yb at h;simp only [Bool.and_eq_true,decide_eq_true_eq] at h;exact h
theorem Ky (h:is.all Aa=true) (k:Nat):(is.take k).all Aa=true:=by
 rw [List.all_eq_true] at h ⊢;exact fun x hx=>h x (List.mem_of_mem_take hx)
theorem Dl (h:is.all Aa=true) (hk:k<is.length):Aa (is.getD k K9)=true:=by
 have e:is.getD k K9=is[k]:=by simp [hk]
 rw [e];rw [List.all_eq_true] at h;exact h _ (List.getElem_mem hk)
theorem Hy (hk:k<is.length):(is.take (k+1)).flatMap R7=(is.take k).flatMap R7++R7 (is.getD k K9):=by
 have e:is.getD k K9=is[k]:=by simp [hk]
 rw [List.take_succ_eq_append_getElem hk,List.flatMap_append,e];simp
end Go.Proofs.YtdpoaadafcaffaaGreatDoor
namespace Go.Proofs.YtdpoaadafcaffaaGreatDoor
open Go.RowKit
variable {x:I3}
theorem QB (h:Y6 x.op=true):Qg x=32::Lib.decDigits x.to.toNat:=by unfold Qg;rw [if_pos h]
theorem XE (h:Y6 x.op=false):Qg x=[]:=by unfold Qg;rw [if_neg (by simp [h])]
theorem RB (h:N7 x.op=true):zh x=32::J4 x.tx.data.toList:=by unfold zh;rw [if_pos h]
theorem KE (h:N7 x.op=false):zh x=[]:=by unfold zh;rw [if_neg (by simp [h])]
theorem gy (a:Option Addr) (cap:Nat) (is:List I3) (w:World) (hs:∀ i,(is.getD i K9).tx.size<=1048700) (hl:is.length<=1048576) (hat:t_ w a is):
 Calls Tryz.prog 58 #[.agg #[.slice a is.length cap]] w fun e w'=>e=.returned (.string (K3 (Bb is)))/\Below w.heap.size w w':=by
 have HAT:=Q0 hat;have hB0:Below w.heap.size w (w.alloc (.cells #[.slice a is.length cap] 109)):=bA;clear hat;go_enter Tryz.func58,Tryz.ntmps58
 go_wp2_with fail
 refine (oI a cap is _ hs hl (O_ HAT.out hB0)).mono ?_;rintro e w1 ⟨rfl,hb1⟩;have hB1:=bT hB0 hb1;have hcode:w1.cell? ⟨w.heap.size,0,none⟩=some (.slice a is.length cap):=(hb1.cell (p:=⟨w.heap.size,0,none⟩) U0).trans (by simp [go_sem]);have hz1:w.heap.size+1<=w1.heap.size:=by have:=hb1.size;simp at this;omega
 clear hb1;cases hok:Yb is
 · have HN:Hid (Bb is=[]):=by unfold Bb;rw [if_neg (by simp [hok])];rfl
   clear hok;go_wp2;go_ret;exact ⟨Sb (by rw [HN.out];rfl),hB1⟩
 obtain ⟨⟨hn1,hn2⟩,hall⟩:=Kb hok;have OM:=Q0 hall;have GN:=Q0 hok;clear hok hall;obtain ⟨b,off,hc⟩:=Ji HAT.out;rcases hc with hc | ⟨rfl,hbw,hcell⟩
 · rw [hc] at hn1;simp at hn1
 have HCE:=Q0 hcell;clear hcell
 go_wp2_with fail
 go_loopw [3,4] (fun o i wr=>∃ (k:Nat),k<=is.length/\i=.int .i64 k/\o=.string (K3 ((is.take k).flatMap R7))/\Below w1.heap.size w1 wr) (fun _ i _=>is.length - (intOf i).toNat)
 case atStart=>exact ⟨0,Nat.zero_le _,rfl,rfl,Below.refl _ _⟩
 obtain ⟨k,hk,rfl,rfl,hbx⟩:=hrel;have hb:=bT hB1 hbx;have a2c:=(hbx.cell (p:=⟨w.heap.size,0,none⟩) (Nat.lt_of_lt_of_le (Nat.lt_succ_self _) hz1)).trans hcode;have hL:((is.take k).flatMap R7).length<=911*40:=by
  have h1:=qx (is.take k) (Ky OM.out k);have h2:(is.take k).length<=40:=by rw [List.length_take];omega
  omega
 by_cases hlt:k<is.length;rotate_left
 · have HT:Hid ((is.take k).flatMap R7=is.flatMap R7):=by rw [List.take_of_length_le O0];rfl
   have HV:Hid (Bb is=if (is.flatMap R7).length<=300 then is.flatMap R7 else []):=by unfold Bb;simp only [GN.out,true_and];trivial
   rw [HT.out] at hL ⊢;generalize is.flatMap R7=l at*;have s0:=Y2 l;by_cases KL:300<l.length
   · go_wp2
     go_ret;exact ⟨Sb (by rw [HV.out,if_neg O0];rfl),hb⟩
   go_wp2;go_ret;exact ⟨Sb (by rw [HV.out,if_pos O0]),hb⟩
 have g0:=(hb.cell (p:=⟨b,off+k*3,none⟩) hbw).trans (HCE.out k hlt).1;have g1:=(hb.cell (p:=⟨b,off+k*3+1,none⟩) hbw).trans (HCE.out k hlt).2.1;have g2:=(hb.cell (p:=⟨b,off+k*3+2,none⟩) hbw).trans (HCE.out k hlt).2.2;have HG:=Q0 (Dl OM.out hlt);have HS:=Q0 (Hy hlt);have hxs:=hs k;generalize is.getD k K9=x at*;generalize (is.take k).flatMap R7=l at*;obtain ⟨l1,l2,l3,l4⟩:=Vq HG.out;obtain ⟨ho,_,_,h4,h5,h6⟩:=A9 HG.out;obtain ⟨m,hm⟩:=Int.eq_ofNat_of_zero_le h4;have hm':m<100:=O0;have s0:(K3 l).size<=911*40:=by rw [Y2];exact hL
 have s1:(Na x.op).size<=4:=by rw [Q_,Y2];exact l1
 have s2:(K3 (Lib.decDigits m)).size<=2:=by rw [Y2];exact Da m hm'
 have s3:(K3 (J4 x.tx.data.toList)).size<=902:=by
  have:=Dj x.tx.data.toList;have e:x.tx.data.toList.length=x.tx.size:=U0;rw [Y2];omega
 have HM:=Q0 hm;have YP:Hid (R7 x=word x.op++Qg x++zh x++[10]):=rfl;clear hm l2 l3 l4 h4 h5
 go_wp2_with fail
 refine (vI x.op _).mono ?_;rintro e w2 ⟨rfl,hw2⟩;obtain rfl:=hw2.symm
 go_wp2_with fail
 refine (wI x.op _).mono ?_;rintro e w2 ⟨rfl,hb2⟩;have p0:w2.cell? ⟨wr.heap.size,0,none⟩=some (.int .i64 x.op):=(hb2.cell (p:=⟨wr.heap.size,0,none⟩) U0).trans (by simp [go_sem]);have p1:w2.cell? ⟨wr.heap.size,1,none⟩=some (.string x.tx):=(hb2.cell (p:=⟨wr.heap.size,1,none⟩) U0).trans (by simp [go_sem]);have p2:w2.cell? ⟨wr.heap.size,2,none⟩=some (.int .i64 x.to):=(hb2.cell (p:=⟨wr.heap.size,2,none⟩) U0).trans (by simp [go_sem]);have TL:=(hbx.alloc hbx.size _).trans (hb2.mono (by have:=hbx.size;simp;omega));have hz2:wr.heap.size+1<=w2.heap.size:=by have:=hb2.size;simp at this;omega
 clear hb2 g0 g1 g2 hbx;cases hO:Y6 x.op <;> cases hX:N7 x.op
 · have HT1:=Q0 (XE hO)
   have HT2:=Q0 (KE hX);clear hO hX;go_wp2;go_roundw
   case rel=>exact ⟨k+1,O0,by go_num,by rw [HS.out,YP.out,HT1.out,HT2.out];simp only [Q_,Uk,Tk];simp,TL⟩
   case measure=>simp [intOf];omega
 · have HT1:=Q0 (XE hO)
   have HT2:=Q0 (RB hX);clear hO hX
   go_wp2_with fail
   refine (zB x.tx _ hxs).mono ?_;rintro e w3 ⟨rfl,hb3⟩;have zS:=bT TL hb3;go_wp2;go_roundw
   case rel=>exact ⟨k+1,O0,by go_num,by rw [HS.out,YP.out,HT1.out,HT2.out];simp only [Q_,Uk,Tk];simp,zS⟩
   case measure=>simp [intOf];omega
 · have HT1:Hid (Qg x=32::Lib.decDigits m):=by rw [QB hO,HM.out];rfl
   have HT2:=Q0 (KE hX);clear hO hX
   go_wp2_with fail
   rw [HM.out];refine (Np m _ hm').mono ?_;rintro e w3 ⟨rfl,hb3⟩;have zS:=bT TL hb3;go_wp2;go_roundw
   case rel=>exact ⟨k+1,O0,by go_num,by rw [HS.out,YP.out,HT1.out,HT2.out];simp only [Q_,Uk,Tk];simp,zS⟩
   case measure=>simp [intOf];omega
 have HT1:Hid (Qg x=32::Lib.decDigits m):=by rw [QB hO,HM.out];rfl
 have HT2:=Q0 (RB hX);clear hO hX
 go_wp2_with fail
 rw [HM.out];refine (Np m _ hm').mono ?_;rintro e w3 ⟨rfl,hb3⟩;have zS:=bT TL hb3;have q1:=(hb3.cell (p:=⟨wr.heap.size,1,none⟩) (Nat.lt_of_lt_of_le (Nat.lt_succ_self _) hz2)).trans p1
 go_wp2_with fail
 refine (zB x.tx _ hxs).mono ?_;rintro e w4 ⟨rfl,hb4⟩;have a2d:=bT zS hb4;go_wp2;go_roundw
 case rel=>exact ⟨k+1,O0,by go_num,by rw [HS.out,YP.out,HT1.out,HT2.out];simp only [Q_,Uk,Tk];simp,a2d⟩
 case measure=>simp [intOf];omega
end Go.Proofs.YtdpoaadafcaffaaGreatDoor
