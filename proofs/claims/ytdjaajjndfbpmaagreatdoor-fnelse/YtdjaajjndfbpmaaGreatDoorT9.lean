import Derived.Test.YtdjaajjndfbpmaaGreatDoorT5
import Derived.Test.YtdjaajjndfbpmaaGreatDoorZ07
set_option maxHeartbeats 8000000
namespace Go.Proofs.YtdjaajjndfbpmaaGreatDoor
open Proofs.Tryz
open Go.RowKit
theorem yL {a b x y:Bool} (h:a=b) (c:x=y):Ending.returned (.tuple #[.bool a,.bool x])=.returned (.tuple #[.bool b,.bool y]):=by rw [h,c]
theorem vI (op:Int) (w:World):
 Calls prog 102 #[.int .i64 op] w fun e w'=>e=.returned (.tuple #[.bool (M8 op),.bool (Z7 op)])/\w'=w:=by
 go_enter func102,ntmps102;go_wp2
 all_goals go_ret2
 all_goals refine ⟨yL ?_ ?_,rfl⟩
 all_goals simp only [M8,Z7]
 all_goals first | rfl | (simp_all;done) | (simp_all;omega)
theorem qD (op:Nat) (h1:1<=op) (h2:op<=11) (u:World):(u.alloc (.cells #[.string ⟨#[]⟩,.string ⟨#[108,105,116]⟩,.string ⟨#[97,114,103]⟩,.string ⟨#[97,115,107]⟩,.string ⟨#[104,97,115]⟩,.string ⟨#[112,117,116]⟩,.string ⟨#[99,97,116]⟩,.string ⟨#[108,105,110,101]⟩,.string ⟨#[105,102]⟩,.string ⟨#[103,111]⟩,.string ⟨#[101,110,100]⟩,.string ⟨#[102,97,105,108]⟩] 9)).cell? ⟨u.heap.size,op,none⟩=some (.string (Gc op)):=by
 obtain rfl | rfl | rfl | rfl | rfl | rfl | rfl | rfl | rfl | rfl | rfl:op=1\/op=2\/op=3\/op=4\/op=5\/op=6\/op=7\/op=8\/op=9\/op=10\/op=11:=O0
 all_goals simp [Gc,word]
theorem ZI (op:Nat) (w:World) (h1:1<=op) (h2:op<=11):
 Calls prog 103 #[.int .i64 op] w fun e w'=>e=.returned (.string (Gc op))/\Below w.heap.size w w':=by
 have a:decide ((1:Int)<=(op:Int)/\(op:Int)<=11)=true:=J4;have hc:=qD op h1 h2;go_enter func103,ntmps103
 go_wp2_with fail
 refine (vH _ _ _ _).mono ?_;rintro e w' ⟨rfl,hw⟩;obtain rfl:=hw.symm;rw [a];go_wp2;go_ret;exact ⟨rfl,bA⟩
theorem Fq (op:Int) (h:¬ (1<=op/\op<=11)):word op=[]:=by
 unfold word
 repeat (rw [R3 O0])
theorem AC (op:Int) (h:1<=op/\op<=11):word op≠[]/\(word op).length<=4:=by
 obtain rfl | rfl | rfl | rfl | rfl | rfl | rfl | rfl | rfl | rfl | rfl:op=1\/op=2\/op=3\/op=4\/op=5\/op=6\/op=7\/op=8\/op=9\/op=10\/op=11:=O0
 all_goals decide
theorem WI (op:Int) (w:World):
 Calls prog 103 #[.int .i64 op] w fun e w'=>e=.returned (.string (Gc op))/\Below w.heap.size w w':=by
 by_cases h:1<=op/\op<=11
 · obtain ⟨n,rfl⟩:=A8 (show 0<=op by omega)
   exact ZI n w O0 O0
 have a:decide (1<=op/\op<=11)=false:=by simpa using h
 have b:Hid (Gc op=⟨#[]⟩):=by unfold Gc;rw [Fq op h];rfl
 go_enter func103,ntmps103
 go_wp2_with fail
 refine (vH _ _ _ _).mono ?_;rintro e w' ⟨rfl,rfl⟩;rw [a];go_wp2;go_ret;exact ⟨by rw [b.out];rfl,F4 _ _⟩
theorem m_ {x:I3} (h:Zb x=true):(1<=x.op/\x.op<=11)/\(Z7 x.op=true\/x.to=0)/\(M8 x.op=true\/x.tx.toList.isEmpty=true)/\0<=x.to/\x.to<=40/\(x.tx.size:Int)<=300:=by
 unfold Zb at h;simp only [V7,Rl,Q_,Vf] at h;exact ⟨h.1.1.1.1,h.1.1.1.2,h.1.1.2,h.1.2.1,h.1.2.2,h.2⟩
theorem Yr {x:I3} (h1:1<=x.op/\x.op<=11) (h2:Z7 x.op=true\/x.to=0) (h3:M8 x.op=true\/x.tx.toList.isEmpty=true) (c:0<=x.to) (b:x.to<=40) (a:(x.tx.size:Int)<=300):Zb x=true:=by
 unfold Zb;simp only [V7,Rl,Q_,Vf];exact ⟨⟨⟨⟨h1,h2⟩,h3⟩,c,b⟩,a⟩
theorem Mw (op:Int):(Gc op).toList.isEmpty=!decide (1<=op/\op<=11):=by
 rw [I7];by_cases h:1<=op/\op<=11
 · rw [show decide (1<=op/\op<=11)=true by simpa using h]
   have:=(AC op h).1
   cases hw:word op with
   | nil=>exact absurd hw this
   | cons a r=>simp [Gc,hw]
 rw [show decide (1<=op/\op<=11)=false by simpa using h];simp [Gc,Fq op h]
theorem mG (a:Option Addr) (cap:Nat) (is:List I3) (w:World) (hs:∀ i,(is.getD i A_).tx.size<=1048700) (hl:is.length<=1048576) (hat:Da w a is):
 Calls prog 101 #[.agg #[.slice a is.length cap]] w fun e w'=>e=.returned (.bool (Zd is))/\Below w.heap.size w w':=by
 by_cases hn:1<=is.length/\is.length<=40;rotate_left
 · have HO:Hid (Zd is=false):=by unfold Zd;rw [show decide (1<=is.length/\is.length<=40)=false by simpa using hn];rfl
   have hd:decide ((1:Int)<=(is.length:Int)/\(is.length:Int)<=40)=false:=by simp only [ZF];omega
   clear hat;go_enter func101,ntmps101
   go_wp2_with fail
   refine (vH _ _ _ _).mono ?_;rintro e w0 ⟨rfl,hw0⟩;obtain rfl:=hw0.symm;rw [hd];go_wp2;go_ret;exact ⟨Y4 HO.out.symm,bA⟩
 have HO:Hid (Zd is=is.all Zb):=by unfold Zd;rw [show decide (1<=is.length/\is.length<=40)=true by simpa using hn];rfl
 have hd:decide ((1:Int)<=(is.length:Int)/\(is.length:Int)<=40)=true:=J4;obtain ⟨hn1,hn2⟩:=hn;obtain ⟨b,off,hc⟩:=Zk hat;rcases hc with hc | ⟨rfl,hbw,hcell⟩
 · rw [hc] at hn1;simp at hn1
 clear hat;go_enter func101,ntmps101
 go_wp2_with fail
 refine (vH _ _ _ _).mono ?_;rintro e w0 ⟨rfl,hw0⟩;obtain rfl:=hw0.symm;rw [hd]
 go_wp2_with fail
 go_loopw [3] (fun i wr=>∃ (k:Nat),k<=is.length/\i=.int .i64 k/\Below (w.heap.size+1) (w.alloc (.cells #[.slice (some ⟨b,off,none⟩) is.length cap] 126)) wr/\Hid ((is.take k).all Zb=true)) (fun i _=>is.length - (intOf i).toNat)
 case atStart=>exact ⟨0,I5 _,rfl,F4 _ _,rfl⟩
 obtain ⟨k,hk,rfl,hbx,hall⟩:=hrel;have hb:=((F4 w.heap.size w).alloc P9 _).trans (hbx.mono O0);have hcode:wr.cell? ⟨w.heap.size,0,none⟩=some (.slice (some ⟨b,off,none⟩) is.length cap):=(hbx.cell (p:=⟨w.heap.size,0,none⟩) X0).trans (by simp [go_sem]);by_cases hlt:k<is.length;rotate_left
 · have HN:Hid (Zd is=true):=by rw [HO.out];have:=hall.out;rwa [E_ O0] at this
   go_wp2;go_ret;exact ⟨Y4 HN.out.symm,hb⟩
 have g0:=(hb.cell (p:=⟨b,off+k*3,none⟩) hbw).trans (hcell k hlt).1;have g1:=(hb.cell (p:=⟨b,off+k*3+1,none⟩) hbw).trans (hcell k hlt).2.1;have g2:=(hb.cell (p:=⟨b,off+k*3+2,none⟩) hbw).trans (hcell k hlt).2.2;have hxs:=hs k;generalize hx:is.getD k A_=x at*;have HX:=Q0 hx;clear hx;have HCE:=Q0 hcell;have UR:w.heap.size+1<=wr.heap.size:=by have:=hbx.size;simp at this;omega
 clear hcell
 go_wp2_with fail
 refine (vI x.op _).mono ?_;rintro e w1 ⟨rfl,hw1⟩;obtain rfl:=hw1.symm
 go_wp2_with fail
 refine (WI x.op _).mono ?_;rintro e w1 ⟨rfl,hb1⟩;have he:=Mw x.op;have p0:w1.cell? ⟨wr.heap.size,0,none⟩=some (.int .i64 x.op):=(hb1.cell (p:=⟨wr.heap.size,0,none⟩) X0).trans (by simp [go_sem]);have p1:w1.cell? ⟨wr.heap.size,1,none⟩=some (.string x.tx):=(hb1.cell (p:=⟨wr.heap.size,1,none⟩) X0).trans (by simp [go_sem]);have p2:w1.cell? ⟨wr.heap.size,2,none⟩=some (.int .i64 x.to):=(hb1.cell (p:=⟨wr.heap.size,2,none⟩) X0).trans (by simp [go_sem]);have hBx:=(hbx.alloc UR _).trans (hb1.mono J4);have hB1:=((F4 w.heap.size w).alloc P9 _).trans (hBx.mono O0);clear hcode hb hbx hb1 g0 g1 g2;cases hok:Zb x
 · have HN:Hid (Zd is=false):=by rw [HO.out];exact AB hlt (by rw [HX.out];exact hok)
   have HK:=Q0 hok;clear hok
   go_wp2_with (go_at_call 55;refine (vH _ _ _ _).mono ?_;rintro e w2 ⟨rfl,rfl⟩)
   all_goals first
    | (go_ret;exact ⟨Y4 HN.out.symm,hB1⟩)
    | (exfalso;refine Kz (HK.out.symm.trans (Yr ?_ ?_ ?_ ?_ ?_ ?_)))
   all_goals first
    | assumption
    | exact .inl (by assumption)
    | exact .inr (by assumption)
    | exact .inr (by rw [show x.tx.toList=[] by assumption];rfl)
    | (have hh:(x.tx.size:Int)<=300/\(!decide (0<=x.to))=false/\(!decide (x.to<=40))=false:=by assumption
       simp only [Bool.not_eq_false',Q_] at hh;omega)
    | omega
 have a0B:=Q0 (ry hlt hall.out (by rw [HX.out];exact hok));obtain ⟨o1,o2,o3,o4,o5,o6⟩:=m_ hok;have hd1:decide (1<=x.op/\x.op<=11)=true:=by simpa using o1
 have hd2:decide (0<=x.to/\x.to<=40)=true:=by simpa using ⟨o4,o5⟩
 clear hok;rcases o2 with o2 | o2 <;> rcases o3 with o3 | o3
 all_goals
  go_wp2_with (go_at_call 55;refine (vH _ _ _ _).mono ?_;rintro e w2 ⟨rfl,rfl⟩)
  all_goals go_roundw
  all_goals first
   | exact ⟨k+1,O0,by go_num,hBx,a0B⟩
   | (simp [intOf];omega)
variable {is:List I3} {k:Nat}
def Vj (x:I3):List UInt8:=if Z7 x.op=true then 32::Lib.decDigits x.to.toNat else []
def Yk (x:I3):List UInt8:=if M8 x.op=true then 32::V4 x.tx.data.toList else []
def V8 (x:I3):List UInt8:=word x.op++Vj x++Yk x++[10]
theorem Sa (n:Nat) (h:n<100):(Lib.decDigits n).length<=2:=by
 by_cases h10:n<10
 · rw [Cf n h10];simp
 rw [Ap n h10,Cf (n / 10) O0];simp
theorem Cw {x:I3} (h:Zb x=true):(word x.op).length<=4/\(Vj x).length<=3/\(Yk x).length<=903/\(V8 x).length<=911:=by
 obtain ⟨h1,_,_,h4,h5,h6⟩:=m_ h;have a:=(AC x.op h1).2;have b:(Vj x).length<=3:=by
  unfold Vj;split
  · have:=Sa x.to.toNat O0;simp;omega
  simp
 have c:(Yk x).length<=903:=by
  unfold Yk;split
  · have:=Ym x.tx.data.toList
    have e:x.tx.data.toList.length=x.tx.size:=X0;simp;omega
  simp
 refine ⟨a,b,c,?_⟩;unfold V8;simp only [List.length_append,List.length_cons,List.length_nil];omega
theorem Ya (op:Int):Gc op=Q3 (word op):=rfl
theorem TF (s:ByteArray) (w:World) (a:s.size<=1048700):
 Calls prog 99 #[.string s] w fun e w'=>e=.returned (.string (Q3 (V4 s.data.toList)))/\Below w.heap.size w w':=YP s w a
def qd (is:List I3):List UInt8:=if Zd is=true/\(is.flatMap V8).length<=300 then is.flatMap V8 else []
theorem iD (is:List I3) (h:is.all Zb=true):(is.flatMap V8).length<=911*is.length:=by
 induction is with
 | nil=>simp
 | cons x r ih=>
  simp only [ni,V7] at h;have:=ih h.2;have h4:=(Cw h.1).2.2.2;simp only [Qe,Q7,u_];omega
theorem Wd (h:Zd is=true):(1<=is.length/\is.length<=40)/\is.all Zb=true:=by
 unfold Zd at h;simp only [V7,Q_] at h;exact h
theorem aG (h:is.all Zb=true) (k:Nat):(is.take k).all Zb=true:=by
 rw [Nf] at h ⊢;exact fun x hx=>h x (Un hx)
theorem Vq (h:is.all Zb=true) (a:k<is.length):Zb (is.getD k A_)=true:=by
 have e:is.getD k A_=is[k]:=by simp [a]
 rw [e];rw [Nf] at h;exact h _ (Ea a)
theorem TD (a:k<is.length):(is.take (k+1)).flatMap V8=(is.take k).flatMap V8++V8 (is.getD k A_):=by
 have e:is.getD k A_=is[k]:=by simp [a]
 rw [Rh a,Uq,e];simp
end Go.Proofs.YtdjaajjndfbpmaaGreatDoor
namespace Go.Proofs.YtdjaajjndfbpmaaGreatDoor
open Go.RowKit
variable {x:I3}
theorem wG (h:Z7 x.op=true):Vj x=32::Lib.decDigits x.to.toNat:=by unfold Vj;rw [if_pos h]
theorem EJ (h:Z7 x.op=false):Vj x=[]:=by unfold Vj;rw [if_neg (by simp [h])]
theorem nH (h:M8 x.op=true):Yk x=32::V4 x.tx.data.toList:=by unfold Yk;rw [if_pos h]
theorem XJ (h:M8 x.op=false):Yk x=[]:=by unfold Yk;rw [if_neg (by simp [h])]
theorem YB (a:Option Addr) (cap:Nat) (is:List I3) (w:World) (H:∀ i,(is.getD i A_).tx.size<=1048700) (hl:is.length<=1048576) (L:Da w a is):
 Calls Tryz.prog 66 #[.agg #[.slice a is.length cap]] w fun e w'=>e=.returned (.string (Q3 (qd is)))/\Below w.heap.size w w':=by
 have V:=Q0 L;have Q:Below w.heap.size w (w.alloc (.cells #[.slice a is.length cap] 126)):=bA;clear L;go_enter Tryz.func66,Tryz.ntmps66
 go_wp2_with fail
 refine (mG a cap is _ H hl (Va V.out Q)).mono ?_;rintro e w1 ⟨rfl,t⟩;have P:=bT Q t;have hcode:w1.cell? ⟨w.heap.size,0,none⟩=some (.slice a is.length cap):=(t.cell (p:=⟨w.heap.size,0,none⟩) X0).trans (by simp [go_sem]);have hz1:w.heap.size+1<=w1.heap.size:=by have:=t.size;simp at this;omega
 clear t;cases hok:Zd is
 · have HN:Hid (qd is=[]):=by unfold qd;rw [if_neg (by simp [hok])];rfl
   clear hok;go_wp2;go_ret;exact ⟨ae (by rw [HN.out];rfl),P⟩
 obtain ⟨⟨I,hn2⟩,N⟩:=Wd hok;have W:=Q0 N;have AV:=Q0 hok;clear hok N;obtain ⟨b,z,B⟩:=Zk V.out;rcases B with B | ⟨rfl,C,K⟩
 · rw [B] at I;simp at I
 have D:=Q0 K;clear K
 go_wp2_with fail
 go_loopw [3,4] (fun o i wr=>∃ (k:Nat),k<=is.length/\i=.int .i64 k/\o=.string (Q3 ((is.take k).flatMap V8))/\Below w1.heap.size w1 wr) (fun _ i _=>is.length - (intOf i).toNat)
 case atStart=>exact ⟨0,I5 _,rfl,rfl,F4 _ _⟩
 obtain ⟨k,hk,rfl,rfl,f⟩:=hrel;have r:=bT P f;have a2o:=(f.cell (p:=⟨w.heap.size,0,none⟩) (D7 (iw _) hz1)).trans hcode;have O:((is.take k).flatMap V8).length<=911*40:=by
  have h1:=iD (is.take k) (aG W.out k);have h2:(is.take k).length<=40:=by rw [Jk];omega
  omega
 by_cases n:k<is.length;rotate_left
 · have HT:Hid ((is.take k).flatMap V8=is.flatMap V8):=by rw [E_ O0];rfl
   have S:Hid (qd is=if (is.flatMap V8).length<=300 then is.flatMap V8 else []):=by unfold qd;simp only [AV.out,true_and];trivial
   rw [HT.out] at O ⊢;generalize is.flatMap V8=l at*;have s0:=J3 l;by_cases xR:300<l.length
   · go_wp2
     go_ret;exact ⟨ae (by rw [S.out,R3 O0];rfl),r⟩
   go_wp2;go_ret;exact ⟨ae (by rw [S.out,Y3 O0]),r⟩
 have g0:=(r.cell (p:=⟨b,z+k*3,none⟩) C).trans (D.out k n).1;have g1:=(r.cell (p:=⟨b,z+k*3+1,none⟩) C).trans (D.out k n).2.1;have g2:=(r.cell (p:=⟨b,z+k*3+2,none⟩) C).trans (D.out k n).2.2;have U:=Q0 (Vq W.out n);have u:=Q0 (TD n);have F:=H k;generalize is.getD k A_=x at*;generalize (is.take k).flatMap V8=l at*;obtain ⟨l1,l2,Z,Y⟩:=Cw U.out;obtain ⟨ho,_,_,R,h5,h6⟩:=m_ U.out;obtain ⟨m,J⟩:=A8 R;have A:m<100:=O0;have s0:(Q3 l).size<=911*40:=by rw [J3];exact O
 have s1:(Gc x.op).size<=4:=by rw [Ya,J3];exact l1
 have s2:(Q3 (Lib.decDigits m)).size<=2:=by rw [J3];exact Sa m A
 have s3:(Q3 (V4 x.tx.data.toList)).size<=902:=by
  have:=Ym x.tx.data.toList;have e:x.tx.data.toList.length=x.tx.size:=X0;rw [J3];omega
 have v:=Q0 J;have y:Hid (V8 x=word x.op++Vj x++Yk x++[10]):=rfl;clear J l2 Z Y R h5
 go_wp2_with fail
 refine (vI x.op _).mono ?_;rintro e j ⟨rfl,hw2⟩;obtain rfl:=hw2.symm
 go_wp2_with fail
 refine (WI x.op _).mono ?_;rintro e j ⟨rfl,h⟩;have p0:j.cell? ⟨wr.heap.size,0,none⟩=some (.int .i64 x.op):=(h.cell (p:=⟨wr.heap.size,0,none⟩) X0).trans (by simp [go_sem]);have X:j.cell? ⟨wr.heap.size,1,none⟩=some (.string x.tx):=(h.cell (p:=⟨wr.heap.size,1,none⟩) X0).trans (by simp [go_sem]);have p2:j.cell? ⟨wr.heap.size,2,none⟩=some (.int .i64 x.to):=(h.cell (p:=⟨wr.heap.size,2,none⟩) X0).trans (by simp [go_sem]);have s:=(f.alloc f.size _).trans (h.mono (by have:=f.size;simp;omega));have hz2:wr.heap.size+1<=j.heap.size:=by have:=h.size;simp at this;omega
 clear h g0 g1 g2 f;cases hO:Z7 x.op <;> cases hX:M8 x.op
 · have d:=Q0 (EJ hO)
   have c:=Q0 (XJ hX);clear hO hX;go_wp2;go_roundw
   case rel=>exact ⟨k+1,O0,by go_num,by rw [u.out,y.out,d.out,c.out];simp only [Ya,Pp,Fp];simp,s⟩
   case measure=>simp [intOf];omega
 · have d:=Q0 (EJ hO)
   have c:=Q0 (nH hX);clear hO hX
   go_wp2_with fail
   refine (TF x.tx _ F).mono ?_;rintro e E ⟨rfl,g⟩;have q:=bT s g;go_wp2;go_roundw
   case rel=>exact ⟨k+1,O0,by go_num,by rw [u.out,y.out,d.out,c.out];simp only [Ya,Pp,Fp];simp,q⟩
   case measure=>simp [intOf];omega
 · have d:Hid (Vj x=32::Lib.decDigits m):=by rw [wG hO,v.out];rfl
   have c:=Q0 (XJ hX);clear hO hX
   go_wp2_with fail
   rw [v.out];refine (Rs m _ A).mono ?_;rintro e E ⟨rfl,g⟩;have q:=bT s g;go_wp2;go_roundw
   case rel=>exact ⟨k+1,O0,by go_num,by rw [u.out,y.out,d.out,c.out];simp only [Ya,Pp,Fp];simp,q⟩
   case measure=>simp [intOf];omega
 have d:Hid (Vj x=32::Lib.decDigits m):=by rw [wG hO,v.out];rfl
 have c:=Q0 (nH hX);clear hO hX
 go_wp2_with fail
 rw [v.out];refine (Rs m _ A).mono ?_;rintro e E ⟨rfl,g⟩;have q:=bT s g;have q1:=(g.cell (p:=⟨wr.heap.size,1,none⟩) (D7 (iw _) hz2)).trans X
 go_wp2_with fail
 refine (TF x.tx _ F).mono ?_;rintro e w4 ⟨rfl,hb4⟩;have a2p:=bT q hb4;go_wp2;go_roundw
 case rel=>exact ⟨k+1,O0,by go_num,by rw [u.out,y.out,d.out,c.out];simp only [Ya,Pp,Fp];simp,a2p⟩
 case measure=>simp [intOf];omega
end Go.Proofs.YtdjaajjndfbpmaaGreatDoor
