import Derived.Test.YtdjaajjndfbpmaaGreatDoorRG
import Derived.Test.YtdjaajjndfbpmaaGreatDoorZ17
import Derived.Test.YtdjaajjndfbpmaaGreatDoorZ10
set_option linter.unusedVariables false
set_option maxHeartbeats 8000000
set_option maxRecDepth 100000
namespace Go.Proofs.YtdjaajjndfbpmaaGreatDoor
open Proofs.Tryz
open Go.RowKit
variable {w w':World} {N b g k:Nat} {ss:List (List UInt8)}
theorem EF (l:List UInt8) (w:World) (hs:l.length<=1048700) (a:Z9 w):
 Calls prog 128 #[.string (Q3 l),.string ⟨#[10]⟩] w fun e w'=>e=.returned (.tuple #[.string (Q3 (Lib.cut l [10]).1),.string (Q3 (Lib.cut l [10]).2.1),.bool (Lib.cut l [10]).2.2])/\Below w.heap.size w w':=by
 obtain ⟨_,m,a⟩:=a;refine (Tryz.strings_Cut (Q3 l) ⟨#[10]⟩ m w (by rw [J3];omega) a).mono ?_;rintro e w' ⟨rfl,n,rfl⟩;exact ⟨rfl,below_drewN n⟩
theorem EM (l:List UInt8) (w:World) (b:l.length<=300) (a:A7 w) (c:Z9 w):
 Calls prog 146 #[.string (Q3 l)] w fun e w'=>Hm l e/\Below w.heap.size w w':=c146 (Q3 l) w (by rw [J3];exact b) a c
def zP (w:World) (l:List UInt8) (e:Ending) (w':World):Prop:=∃ (is:List I3) (ok:Bool) (v:Value),e=.returned (.tuple #[.agg #[v],.bool ok])/\w'.ownsRow w.heap.size 165 3 v is.length (J5 is)/\Z_ l is ok
theorem Nv {o:Obj} (h:w.heap[k]?=some o) (a b:Obj):((w.alloc a).alloc b).heap[k]?=some o:=by
 have c:=Q4 h;rw [Sm _ _ _ J4,Sm _ _ _ c];exact h
theorem X6 (a:g=w.heap.size) (o:Obj):(w.alloc o).heap[g]?=some o:=by
 subst a;exact Array.getElem?_push_size
theorem c119 (s:ByteArray) (w:World) (hs:s.size<=1048576) (hsh:A7 w) (hmx:Z9 w):
 Calls prog 119 #[.string s] w fun e w'=>zP w s.data.toList e w'/\Below w.heap.size w w':=by
 have DV:=Q0 hsh;have FV:=Q0 hmx;clear hsh hmx;have hlen:s.data.toList.length=s.size:=X0;obtain ⟨i0,hi,hz0,hz1,hz2⟩:=Ze Rp;by_cases xR:300<s.size
 · have b:Hid (Z_ s.data.toList [] false):=Tg O0
   go_enter func119,ntmps119;go_wp2;refine K4 (v:=.tuple #[.agg #[.slice none 0 0],.bool false]) (by simp [results,results119,go_sem]) rfl ⟨⟨[],false,_,rfl,F9 _ _ _ _,b.out⟩,bA⟩
 have hBR:Below w.heap.size w (w.alloc (.cells #[.slice none 0 0] 126)):=bA;have HS:=Q0 ((Hw s).symm);go_enter func119,ntmps119
 go_wp2_with fail
 go_loopw [5] (fun r wr=>∃ (l:List UInt8) (is:List I3) (v:Value),r=.string (Q3 l)/\Hid (Way s.data.toList is l)/\Hid (wr.heap[w.heap.size+1]?=some (.cells #[v] 126 (0,0)))/\wr.ownsRow (w.heap.size+2) 165 3 v is.length (J5 is)/\Below (w.heap.size+1) (w.alloc (.cells #[.slice none 0 0] 126)) wr/\w.heap.size+2<=wr.heap.size) (fun r _=>strOf r)
 case atStart=>
  refine ⟨s.data.toList,[],.slice none 0 0,by rw [<- HS.out],Jm _,X6 X0 _,F9 _ _ _ _,(F4 _ _).alloc X0 _,X0⟩
 obtain ⟨l,is,v,rfl,g,C,m,t,UR⟩:=hrel;have A:=hBR.trans (t.mono O0);have D:wr.cell? ⟨w.heap.size,0,none⟩=some (.slice none 0 0):=(t.cell (p:=⟨w.heap.size,0,none⟩) X0).trans (by simp [go_sem]);have E:wr.frozen? ⟨w.heap.size,0,none⟩=false:=(t.frozen (p:=⟨w.heap.size,0,none⟩) X0).trans (by simp [go_sem]);have Q:wr.cell? ⟨w.heap.size+1,0,none⟩=some v:=by rw [Z5 C.out];rfl
 have hTf:=B_ C.out 0;obtain ⟨hwl,hwt⟩:=Au g.out;by_cases J:l=[]
 · subst J
   have hnl:(Q3 []).toList=[]:=by rw [I7];rfl
   obtain ⟨W1,W2⟩:=Ov g.out O0;have W:=Q0 W1;have V:=Q0 W2;clear W1 W2;obtain ⟨H,F,hv,hat⟩:=J7 m;subst hv;have HAT:=Q0 hat;clear hat g
   go_wp2_with fail
   refine (c143 H F is wr (fun i=>Z4 (hwt i) O0) O0 HAT.out (o9 DV.out A)).mono ?_;rintro e w5 ⟨rfl,j⟩;have QW:=bT A j;have VU:=(j.cell (p:=⟨w.heap.size,0,none⟩) J4).trans D;have a2m:=(j.frozen (p:=⟨w.heap.size,0,none⟩) J4).trans E;have a2n:=(j.cell (p:=⟨w.heap.size+1,0,none⟩) J4).trans Q;have hown5:=ownsRow_below m j;clear D E Q hTf j m;cases hok:Zd is
   · have b:=Q0 (V.out hok)
     clear hok W V;go_wp2;refine K4 (v:=.tuple #[.agg #[.slice none 0 0],.bool false]) (by simp [results,results119,go_sem,O7 _ _ _ VU]) rfl ⟨⟨[],false,_,rfl,F9 _ _ _ _,b.out⟩,QW.setCell X0 _⟩
   have b:=Q0 (W.out hok);clear hok W V;go_wp2;refine K4 (v:=.tuple #[.agg #[.slice H is.length F],.bool true]) (by simp [results,results119,go_sem,O7 _ _ _ VU]) rfl ⟨⟨is,true,_,rfl,D5 (Jr hown5 (by show w.heap.size<w.heap.size+2;omega) _) O0,b.out⟩,QW.setCell X0 _⟩
 have e0:(Q3 l).toList.isEmpty=false:=by
  rw [I7]
  cases l with
  | nil=>exact absurd rfl J
  | cons a r=>rfl
 have e1:¬ (Q3 l).toList=[]:=fun h=>by rw [h] at e0;cases e0
 go_wp2_with fail
 refine (EF l _ O0 (f_ FV.out A)).mono ?_;rintro e w1 ⟨rfl,P⟩;have S:=bT A P;have L:=vF l;have hcl:(Lib.cut l [10]).1.length<=300:=by
  rcases L with ⟨_,h,_⟩ | ⟨_,h,_⟩
  · have:=V3 List.length h
    rw [Q7] at this;omega
  rw [h];omega
 have X:=Q0 L;clear L;generalize (Lib.cut l [10]).1=ca at*;generalize (Lib.cut l [10]).2.1=U at*;generalize (Lib.cut l [10]).2.2=cf at*
 go_wp2_with fail
 refine (EM ca _ hcl (o9 DV.out S) (f_ FV.out S)).mono ?_;rintro e c ⟨⟨x,ok,rfl,N⟩,O⟩;have hB2:=bT S O;have d:=bT P O;have a0H:=(d.cell (p:=⟨w.heap.size,0,none⟩) J4).trans D;have a0I:=(d.frozen (p:=⟨w.heap.size,0,none⟩) J4).trans E;have hz2':=d.size;have R:=past (by show w.heap.size<c.heap.size;omega) a0H;have a4l:=Mc (by show w.heap.size<c.heap.size;omega) a0I;have B:=(d.block _ O0).trans C.out;have a0J:c.cell? ⟨w.heap.size+1,0,none⟩=some v:=by rw [Z5 B];rfl
 have a0K:=B_ B 0;have HT2:=Q0 B;have a4m:=past (by show w.heap.size+1<c.heap.size;omega) a0J;have a4n:=Mc (by show w.heap.size+1<c.heap.size;omega) a0K;have I:=ownsRow_below m d;have GR:=t.trans (d.mono O0);clear B D E Q hTf P O d t m C a0H a0I a0J a0K;have FAIL:Hid ((cf=false\/ok=false)->Z_ s.data.toList [] false):=by
  intro n;refine Ej g.out J fun y q hy e=>?_;rcases X.out with ⟨h1,h2,h3⟩ | ⟨h1,h2,h3⟩
  · rcases n with n | n
    · rw [n] at h1;cases h1
    have:=(Dp h3 (Ta y) (h2.symm.trans e)).1;exact N.2 n y hy this
  apply h3;rw [e];simp
 have Z:Hid (cf=true->ok=true->Way s.data.toList (is++[x]) U/\U.length<l.length):=by
  intro h1 h2;rcases X.out with ⟨_,hll,h3⟩ | ⟨h1',_,_⟩
  · refine ⟨Iq (a:=ca) (by rw [<- hll];exact g.out) (N.1 h2),?_⟩
    rw [hll];simp;omega
  rw [h1] at h1';cases h1'
 clear X N g;by_cases hgo:cf=true/\ok=true
 · obtain ⟨rfl,rfl⟩:=hgo
   obtain ⟨hw1,hw2⟩:=Z.out rfl rfl;have HW:=Q0 hw1;clear FAIL Z hw1;have hne:v.ownBlock≠some (w.heap.size+1):=fun e=>by have:=(I.lt _ e).1;omega
   have HNE:=Q0 hne;clear hne
   go_wp2_with (at_builtin;refine wpList_append_own _ rfl _ _ 124 rfl (w.heap.size+2) 165 i0 (.agg #[.int .i64 0,.string ⟨#[]⟩,.int .i64 0]) 3 32 underlying124 hi hz0 hz1 hz2 rfl K3 _ _ _ rfl ((I.alloc _).alloc _) ⟨c.heap.size+1,0,none⟩ 1 1 [_,_,_] rfl rfl (Vh X0 _ _ _ _) (by intro u hu;simp at hu;rcases hu with rfl | rfl | rfl <;> rfl) (by unfold maxLen;omega) O0 J4 ?_;intro v' f hown3 z _;have Y:Hid (f.heap[w.heap.size+1]?=some (.cells #[v] 126 (0,0))):=Ud (v:=v) (Nv HT2.out _ _) HNE.out z;have HG:Hid (Below (w.heap.size+1) (w.alloc (.cells #[.slice none 0 0] 126)) f):=((GR.alloc O0 _).alloc J4 _).grown z J4 (fun k hk=>by have:=(I.lt k hk).1;omega);have hz3:c.heap.size+2<=f.heap.size:=(by have:=z.size;simp at this;omega);obtain ⟨H,F,rfl⟩:=E9 hown3;have d1:f.cell? ⟨w.heap.size+1,0,none⟩=some v:=(by rw [Lib.cell_of_heap Y.out];rfl);have f1:f.frozen? ⟨w.heap.size+1,0,none⟩=false:=Lib.frozen_of_heap Y.out 0;clear z)
   go_roundw
   case rel=>
    refine ⟨U,is++[x],.slice H (is.length+1) F,rfl,HW,?_,?_,HG.out.setCell X0 _,J4⟩
    · exact o8 f (w.heap.size+1) 0 _ _ _ Y.out
    rw [V_,Q7];exact Jr hown3 (by show w.heap.size+1<w.heap.size+2;omega) _
   case measure=>simp [strOf,J3];exact hw2
 have b:=Q0 (FAIL.out (by cases cf <;> cases ok <;> simp_all));clear FAIL Z;have K:∀ o,Below w.heap.size w ((c.alloc o).setCell ⟨w.heap.size,0,none⟩ (.slice none 0 0)):=fun o=>(hB2.alloc hB2.size _).setCell X0 _;cases cf <;> cases ok
 · go_wp2
   refine K4 (v:=.tuple #[.agg #[.slice none 0 0],.bool false]) (by simp [results,results119,go_sem,O7 _ _ _ (R _)]) rfl ⟨⟨[],false,_,rfl,F9 _ _ _ _,b.out⟩,K _⟩
 · go_wp2
   refine K4 (v:=.tuple #[.agg #[.slice none 0 0],.bool false]) (by simp [results,results119,go_sem,O7 _ _ _ (R _)]) rfl ⟨⟨[],false,_,rfl,F9 _ _ _ _,b.out⟩,K _⟩
 · go_wp2
   refine K4 (v:=.tuple #[.agg #[.slice none 0 0],.bool false]) (by simp [results,results119,go_sem,O7 _ _ _ (R _)]) rfl ⟨⟨[],false,_,rfl,F9 _ _ _ _,b.out⟩,K _⟩
 exact absurd ⟨rfl,rfl⟩ hgo
theorem ZK (l:List UInt8) (w:World) (a:l.length<=1048700):
 Calls prog 71 #[.string (Q3 l),.int .i64 1] w fun e w'=>(∃ g b,e=.returned (.tuple #[.slice (some ⟨g,0,none⟩) 1 b,.string (Q3 (I1 l))])/\w.heap.size<=g/\K7 w' g [O1 l])/\Below w.heap.size w w':=GQ (Q3 l) w (by rw [J3];exact a)
theorem sK (l:List UInt8) (w:World) (a:l.length<=1048700):
 Calls prog 150 #[.string (Q3 l)] w fun e w'=>e=.returned (.int .i64 (n29 l))/\Below w.heap.size w w':=dI (Q3 l) w (by rw [J3];exact a)
theorem fJ (l:List UInt8) (w:World) (a:l.length<=1048700):
 Calls prog 72 #[.string (Q3 l)] w fun e w'=>(∃ t,e=.returned (.string (Q3 t))/\t.length<=l.length+1/\∀ q,l=V4 q->t=q)/\Below w.heap.size w w':=by
 have:=c72 (Q3 l) w (by rw [J3];exact a);rw [J3] at this;exact this
theorem p_ (l:List UInt8):(O1 l).length<=l.length/\(I1 l).length<=l.length:=by
 refine ⟨(Az _).length_le,?_⟩;unfold I1;rw [Yn];have:(l.dropWhile (· !=32)).length<=l.length:=(List.dropWhile_sublist _).length_le;omega
theorem Td {is:List I3} {x:I3} (h:∀ j,(is.getD j A_).tx.size<=N) (hx:x.tx.size<=N) (j:Nat):((is++[x]).getD j A_).tx.size<=N:=by
 rcases yo j is.length with a | a | a
 · have:(is++[x]).getD j A_=is.getD j A_:=by simp [List.getD,Eb a]
   rw [this];exact h j
 · subst a
   have:(is++[x]).getD is.length A_=x:=by simp [List.getD]
   rw [this];exact hx
 have:(is++[x]).getD j A_=A_:=by simp [List.getD,Xe (show (is++[x]).length<=j by simp;omega)]
 rw [this];exact I5 _
theorem Ic (h:K7 w g ss) (a:But b w w') (c:g≠b):K7 w' g ss:=
 ⟨D7 h.1 a.size,fun i d=>by rw [a.cell (by exact h.1) (by exact c)];exact h.2 i d⟩
theorem ng {row:Option Nat} (h:K7 w g ss) (a:w.grownBy w' row) (b:some g≠row):K7 w' g ss:=
 ⟨D7 h.1 a.size,fun i c=>by
  have:=h.2 i c;unfold World.cell? at this ⊢;rw [a.block g h.1 b];exact this⟩
end Go.Proofs.YtdjaajjndfbpmaaGreatDoor
namespace Go.Proofs.YtdjaajjndfbpmaaGreatDoor
open Go.RowKit
structure ST where
 hand:ByteArray
 out:List UInt8
 pc:Nat
 looks:Nat
 steps:Nat
structure TN where
 over:Bool
 code:Int
 text:ByteArray
 has:Bool
 name:ByteArray
 steps:Int
def TN.v (t:TN):Value:=.agg #[.bool t.over,.int .i64 t.code,.string t.text,.bool t.has,.string t.name,.int .i64 t.steps]
def L6:TN:=⟨false,0,⟨#[]⟩,false,⟨#[]⟩,0⟩
def l6 (c:Int) (t:ByteArray) (k:Int):TN:=⟨true,c,t,false,⟨#[]⟩,k⟩
def Vb (h:ByteArray) (n:Int):ByteArray:=if n<((E8 10 h.data.toList).length:Int) then Q3 ((E8 10 h.data.toList).getD n.toNat []) else ⟨#[]⟩
def look (x:I3) (nR:List R2) (s:ST):ST ⊕ TN:=
 if J2 s.hand.data.toList=false then .inr (l6 4 ⟨#[63]⟩ (s.steps+1))
 else if 14<=s.looks then .inr (l6 3 ⟨#[]⟩ (s.steps+1))
 else if nR.length<=s.looks then .inr ⟨false,0,⟨#[]⟩,x.op==4,s.hand,s.steps+1⟩
 else if x.op=4 then .inl ⟨if (nR.getD s.looks Jc).code=4 then ⟨#[48]⟩ else ⟨#[49]⟩,s.out,s.pc+1,s.looks+1,s.steps+1⟩
 else if (nR.getD s.looks Jc).code=4 then .inr (l6 4 s.hand (s.steps+1))
 else if (nR.getD s.looks Jc).code=0 then .inl ⟨(nR.getD s.looks Jc).tx,s.out,s.pc+1,s.looks+1,s.steps+1⟩
 else .inr (l6 5 s.hand (s.steps+1))
def brk (p:Nat) (k:Int):TN:=l6 2 (Q3 (Lib.decDigits p)) k
def act (arg:ByteArray) (nR:List R2) (x:I3) (s:ST):ST ⊕ TN:=
 if x.op=1 then .inl ⟨x.tx,s.out,s.pc+1,s.looks,s.steps+1⟩
 else if x.op=2 then .inl ⟨arg,s.out,s.pc+1,s.looks,s.steps+1⟩
 else if x.op=5 then (if 300<s.out.length+s.hand.size then .inr (brk s.pc (s.steps+1)) else .inl ⟨s.hand,s.out++s.hand.data.toList,s.pc+1,s.looks,s.steps+1⟩)
 else if x.op=6 then (if 300<s.hand.size+x.tx.size then .inr (brk s.pc (s.steps+1)) else .inl ⟨s.hand++x.tx,s.out,s.pc+1,s.looks,s.steps+1⟩)
 else if x.op=7 then .inl ⟨Vb s.hand x.to,s.out,s.pc+1,s.looks,s.steps+1⟩
 else if x.op=8 then .inl ⟨s.hand,s.out,if s.hand.data.toList=x.tx.data.toList then x.to.toNat else s.pc+1,s.looks,s.steps+1⟩
 else if x.op=9 then .inl ⟨s.hand,s.out,x.to.toNat,s.looks,s.steps+1⟩
 else if x.op=10 then .inr (l6 0 (Q3 s.out) (s.steps+1))
 else if x.op=11 then .inr (l6 1 s.hand (s.steps+1))
 else look x nR s
def step (T:List I3) (arg:ByteArray) (nR:List R2) (s:ST):ST ⊕ TN:=
 if T.length<=s.pc then .inr (brk s.pc s.steps) else if 200<=s.steps then .inr (l6 3 ⟨#[]⟩ s.steps) else act arg nR (T.getD s.pc A_) s
def ZA (T:List I3) (arg:ByteArray) (nR:List R2):Nat->ST->TN
 | 0,_=>L6
 | n+1,s=>match step T arg nR s with
  | .inl s'=>ZA T arg nR n s'
  | .inr r=>r
def s0:ST:=⟨⟨#[]⟩,[],0,0,0⟩
def fin (T:List I3) (arg:ByteArray) (nR:List R2):TN:=ZA T arg nR 202 s0
def On (T:List I3) (arg:ByteArray) (nR:List R2) (s:ST):Prop:=fin T arg nR=ZA T arg nR (202 - s.steps) s
def Tp (nR:List R2):Bool:=nR.all fun r=>vr r.code r.tx.data.toList
structure Fit (nR:List R2) (s:ST):Prop where
 hand:s.hand.size<=300
 out:s.out.length<=300
 pc:s.pc<=41
 looks:s.looks<=14
 most:s.looks<=nR.length
 steps:s.steps<=200
theorem jy (T:List I3) (arg:ByteArray) (nR:List R2):On T arg nR s0:=rfl
theorem jo (nR:List R2):Fit nR s0:=⟨by simp [s0,ByteArray.size],by simp [s0],by simp [s0],by simp [s0],by simp [s0],by simp [s0]⟩
theorem zz {T:List I3} {arg:ByteArray} {nR:List R2} {s:ST} {r:TN} (h:On T arg nR s) (hs:s.steps<=200) (e:step T arg nR s=.inr r):fin T arg nR=r:=by
 unfold On at h;obtain ⟨m,a⟩:∃ m,202 - s.steps=m+1:=⟨201 - s.steps,O0⟩;rw [h,a,ZA,e]
theorem ut {arg:ByteArray} {nR:List R2} {x:I3} {s b:ST} (e:act arg nR x s=.inl b):b.steps=s.steps+1:=by
 unfold act look at e;by_cases h1:x.op=1
 · rw [Y3 h1] at e
   injection e with e;subst e;rfl
 rw [R3 h1] at e;by_cases h2:x.op=2
 · rw [Y3 h2] at e
   injection e with e;subst e;rfl
 rw [R3 h2] at e;by_cases d:x.op=5
 · rw [Y3 d] at e
   by_cases a:300<s.out.length+s.hand.size
   · rw [Y3 a] at e
     injection e
   rw [R3 a] at e;injection e with e;subst e;rfl
 rw [R3 d] at e;by_cases c:x.op=6
 · rw [Y3 c] at e
   by_cases a:300<s.hand.size+x.tx.size
   · rw [Y3 a] at e
     injection e
   rw [R3 a] at e;injection e with e;subst e;rfl
 rw [R3 c] at e;by_cases h7:x.op=7
 · rw [Y3 h7] at e
   injection e with e;subst e;rfl
 rw [R3 h7] at e;by_cases h8:x.op=8
 · rw [Y3 h8] at e
   injection e with e;subst e;rfl
 rw [R3 h8] at e;by_cases h9:x.op=9
 · rw [Y3 h9] at e
   injection e with e;subst e;rfl
 rw [R3 h9] at e;by_cases h10:x.op=10
 · rw [Y3 h10] at e
   injection e
 rw [R3 h10] at e;by_cases g:x.op=11
 · rw [Y3 g] at e
   injection e
 rw [R3 g] at e;by_cases ga:J2 s.hand.data.toList=false
 · rw [Y3 ga] at e
   injection e
 rw [R3 ga] at e;by_cases gb:14<=s.looks
 · rw [Y3 gb] at e
   injection e
 rw [R3 gb] at e;by_cases gc:nR.length<=s.looks
 · rw [Y3 gc] at e
   injection e
 rw [R3 gc] at e;by_cases f:x.op=4
 · rw [Y3 f] at e
   injection e with e;subst e;rfl
 rw [R3 f] at e;by_cases i:(nR.getD s.looks Jc).code=4
 · rw [Y3 i] at e
   injection e
 rw [R3 i] at e;by_cases h:(nR.getD s.looks Jc).code=0
 · rw [Y3 h] at e
   injection e with e;subst e;rfl
 rw [R3 h] at e;injection e
theorem Pw {T:List I3} {arg:ByteArray} {nR:List R2} {s a:ST} (e:step T arg nR s=.inl a):s.steps<200/\a.steps=s.steps+1:=by
 unfold step at e;split at e
 · injection e
 split at e
 · injection e
 exact ⟨O0,ut e⟩
theorem kL {T:List I3} {arg:ByteArray} {nR:List R2} {s a:ST} (h:On T arg nR s) (e:step T arg nR s=.inl a):On T arg nR a:=by
 obtain ⟨h1,h2⟩:=Pw e;unfold On at h ⊢;obtain ⟨m,b⟩:∃ m,202 - s.steps=m+1:=⟨201 - s.steps,O0⟩;rw [h,b,ZA,e];simp only
 congr 1
 omega
theorem xy {T:List I3} {arg:ByteArray} {nR:List R2} {s:ST} (h1:s.pc<T.length) (h2:s.steps<200):step T arg nR s=act arg nR (T.getD s.pc A_) s:=by
 unfold step;rw [R3 O0,R3 O0]
theorem OA {nR:List R2} (h:Tp nR=true) {k:Nat} (a:k<nR.length):vr (nR.getD k Jc).code (nR.getD k Jc).tx.data.toList=true:=by
 have e:nR.getD k Jc=nR[k]:=by simp [a]
 rw [e];unfold Tp at h;rw [Nf] at h;exact h _ (Ea a)
theorem Ai {c:Int} {l:List UInt8} (h:vr c l=true):l.length<=300:=by
 rcases U5 300 l.length with a | a
 · rw [Rv a] at h;cases h
 exact a
theorem Cq (h:ByteArray) (n:Int):(Vb h n).size<=h.size:=by
 unfold Vb;split
 · rw [J3]
   have:=zn 10 h.data.toList n.toNat;simpa using this
 exact I5 _
theorem QB {arg:ByteArray} {nR:List R2} {x:I3} {s g:ST} (hx:Zb x=true) (q:arg.size<=300) (p:Tp nR=true) (h:Fit nR s) (hpc:s.pc<=40) (hst:s.steps<200) (e:act arg nR x s=.inl g):Fit nR g:=by
 obtain ⟨f,a,f3,c,b,f6⟩:=h;obtain ⟨_,_,_,x4,x5,x6⟩:=m_ hx;have hl:=Cq s.hand x.to;unfold act look at e;by_cases h1:x.op=1
 · rw [Y3 h1] at e
   injection e with e;subst e;exact ⟨by show x.tx.size<=300;omega,a,by show s.pc+1<=41;omega,c,b,by show s.steps+1<=200;omega⟩
 rw [R3 h1] at e;by_cases h2:x.op=2
 · rw [Y3 h2] at e
   injection e with e;subst e;exact ⟨q,a,by show s.pc+1<=41;omega,c,b,by show s.steps+1<=200;omega⟩
 rw [R3 h2] at e;by_cases j:x.op=5
 · rw [Y3 j] at e
   by_cases d:300<s.out.length+s.hand.size
   · rw [Y3 d] at e
     injection e
   rw [R3 d] at e;injection e with e;subst e;exact ⟨f,by show (s.out++s.hand.data.toList).length<=300;rw [Q7];simp;omega,by show s.pc+1<=41;omega,c,b,by show s.steps+1<=200;omega⟩
 rw [R3 j] at e;by_cases i:x.op=6
 · rw [Y3 i] at e
   by_cases d:300<s.hand.size+x.tx.size
   · rw [Y3 d] at e
     injection e
   rw [R3 d] at e;injection e with e;subst e;exact ⟨by show (s.hand++x.tx).size<=300;rw [K9];omega,a,by show s.pc+1<=41;omega,c,b,by show s.steps+1<=200;omega⟩
 rw [R3 i] at e;by_cases h7:x.op=7
 · rw [Y3 h7] at e
   injection e with e;subst e;exact ⟨by show (Vb s.hand x.to).size<=300;omega,a,by show s.pc+1<=41;omega,c,b,by show s.steps+1<=200;omega⟩
 rw [R3 h7] at e;by_cases h8:x.op=8
 · rw [Y3 h8] at e
   injection e with e;subst e;exact ⟨f,a,by show (if s.hand.data.toList=x.tx.data.toList then x.to.toNat else s.pc+1)<=41;split <;> omega,c,b,by show s.steps+1<=200;omega⟩
 rw [R3 h8] at e;by_cases h9:x.op=9
 · rw [Y3 h9] at e
   injection e with e;subst e;exact ⟨f,a,by show x.to.toNat<=41;omega,c,b,by show s.steps+1<=200;omega⟩
 rw [R3 h9] at e;by_cases h10:x.op=10
 · rw [Y3 h10] at e
   injection e
 rw [R3 h10] at e;by_cases m:x.op=11
 · rw [Y3 m] at e
   injection e
 rw [R3 m] at e;by_cases ga:J2 s.hand.data.toList=false
 · rw [Y3 ga] at e
   injection e
 rw [R3 ga] at e;by_cases gb:14<=s.looks
 · rw [Y3 gb] at e
   injection e
 rw [R3 gb] at e;by_cases gc:nR.length<=s.looks
 · rw [Y3 gc] at e
   injection e
 rw [R3 gc] at e;by_cases l:x.op=4
 · rw [Y3 l] at e
   injection e with e;subst e;exact ⟨by show ByteArray.size (if _ then _ else _)<=300;split <;> decide,a,by show s.pc+1<=41;omega,by show s.looks+1<=14;omega,by show s.looks+1<=nR.length;omega,by show s.steps+1<=200;omega⟩
 rw [R3 l] at e;by_cases o:(nR.getD s.looks Jc).code=4
 · rw [Y3 o] at e
   injection e
 rw [R3 o] at e;by_cases n:(nR.getD s.looks Jc).code=0
 · rw [Y3 n] at e
   injection e with e;subst e;exact ⟨by have h:=Ai (OA p (k:=s.looks) O0);show (nR.getD s.looks Jc).tx.size<=300;simpa using h,a,by show s.pc+1<=41;omega,by show s.looks+1<=14;omega,by show s.looks+1<=nR.length;omega,by show s.steps+1<=200;omega⟩
 rw [R3 n] at e;injection e
def l9 (T:List I3) (arg:ByteArray) (nR:List R2):TN:=if Zd T=true/\arg.size<=300/\nR.length<=14/\Tp nR=true then fin T arg nR else L6
section
variable {arg:ByteArray} {nR:List R2} {tx:ByteArray} {to:Int} {s:ST}
theorem aK:act arg nR ⟨1,tx,to⟩ s=.inl ⟨tx,s.out,s.pc+1,s.looks,s.steps+1⟩:=rfl
theorem cK:act arg nR ⟨2,tx,to⟩ s=.inl ⟨arg,s.out,s.pc+1,s.looks,s.steps+1⟩:=rfl
theorem wE (h:300<s.out.length+s.hand.size):act arg nR ⟨5,tx,to⟩ s=.inr (brk s.pc (s.steps+1)):=Y3 h
theorem YF (h:¬ 300<s.out.length+s.hand.size):act arg nR ⟨5,tx,to⟩ s=.inl ⟨s.hand,s.out++s.hand.data.toList,s.pc+1,s.looks,s.steps+1⟩:=R3 h
theorem FE (h:300<s.hand.size+tx.size):act arg nR ⟨6,tx,to⟩ s=.inr (brk s.pc (s.steps+1)):=Y3 h
theorem KF (h:¬ 300<s.hand.size+tx.size):act arg nR ⟨6,tx,to⟩ s=.inl ⟨s.hand++tx,s.out,s.pc+1,s.looks,s.steps+1⟩:=R3 h
theorem XE:act arg nR ⟨7,tx,to⟩ s=.inl ⟨Vb s.hand to,s.out,s.pc+1,s.looks,s.steps+1⟩:=rfl
theorem yG (h:s.hand.data.toList=tx.data.toList):act arg nR ⟨8,tx,to⟩ s=.inl ⟨s.hand,s.out,to.toNat,s.looks,s.steps+1⟩:=by
 show Sum.inl (ST.mk s.hand s.out (if s.hand.data.toList=tx.data.toList then to.toNat else s.pc+1) s.looks (s.steps+1))=_;rw [Y3 h]
theorem rE (h:¬ s.hand.data.toList=tx.data.toList):act arg nR ⟨8,tx,to⟩ s=.inl ⟨s.hand,s.out,s.pc+1,s.looks,s.steps+1⟩:=by
 show Sum.inl (ST.mk s.hand s.out (if s.hand.data.toList=tx.data.toList then to.toNat else s.pc+1) s.looks (s.steps+1))=_;rw [R3 h]
theorem nK:act arg nR ⟨9,tx,to⟩ s=.inl ⟨s.hand,s.out,to.toNat,s.looks,s.steps+1⟩:=rfl
theorem MF:act arg nR ⟨10,tx,to⟩ s=.inr (l6 0 (Q3 s.out) (s.steps+1)):=rfl
theorem IE:act arg nR ⟨11,tx,to⟩ s=.inr (l6 1 s.hand (s.steps+1)):=rfl
theorem Us:act arg nR ⟨3,tx,to⟩ s=look ⟨3,tx,to⟩ nR s:=rfl
theorem qy:act arg nR ⟨4,tx,to⟩ s=look ⟨4,tx,to⟩ nR s:=rfl
theorem Zf {x:I3} (h:J2 s.hand.data.toList=false):look x nR s=.inr (l6 4 ⟨#[63]⟩ (s.steps+1)):=Y3 h
theorem lh {x:I3} (h:J2 s.hand.data.toList=true) (h2:14<=s.looks):look x nR s=.inr (l6 3 ⟨#[]⟩ (s.steps+1)):=by
 unfold look;rw [if_neg (by simp [h]),if_pos h2]
theorem Cj {x:I3} (h:J2 s.hand.data.toList=true) (h2:¬ 14<=s.looks) (h3:nR.length<=s.looks):look x nR s=.inr ⟨false,0,⟨#[]⟩,x.op==4,s.hand,s.steps+1⟩:=by
 unfold look;rw [if_neg (by simp [h]),if_neg h2,if_pos h3]
theorem Bl {x:I3} (h:J2 s.hand.data.toList=true) (h2:¬ 14<=s.looks) (h3:¬ nR.length<=s.looks):look x nR s=if x.op=4 then .inl ⟨if (nR.getD s.looks Jc).code=4 then ⟨#[48]⟩ else ⟨#[49]⟩,s.out,s.pc+1,s.looks+1,s.steps+1⟩
 else if (nR.getD s.looks Jc).code=4 then .inr (l6 4 s.hand (s.steps+1))
 else if (nR.getD s.looks Jc).code=0 then .inl ⟨(nR.getD s.looks Jc).tx,s.out,s.pc+1,s.looks+1,s.steps+1⟩
 else .inr (l6 5 s.hand (s.steps+1)):=by
 unfold look;rw [if_neg (by simp [h]),if_neg h2,if_neg h3]
theorem uC (h:J2 s.hand.data.toList=true) (h2:¬ 14<=s.looks) (h3:¬ nR.length<=s.looks) (a:(nR.getD s.looks Jc).code=4):look ⟨4,tx,to⟩ nR s=.inl ⟨⟨#[48]⟩,s.out,s.pc+1,s.looks+1,s.steps+1⟩:=by
 rw [Bl h h2 h3,Y3 rfl,Y3 a]
theorem vB (h:J2 s.hand.data.toList=true) (h2:¬ 14<=s.looks) (h3:¬ nR.length<=s.looks) (a:¬ (nR.getD s.looks Jc).code=4):look ⟨4,tx,to⟩ nR s=.inl ⟨⟨#[49]⟩,s.out,s.pc+1,s.looks+1,s.steps+1⟩:=by
 rw [Bl h h2 h3,Y3 rfl,R3 a]
theorem IB (h:J2 s.hand.data.toList=true) (h2:¬ 14<=s.looks) (h3:¬ nR.length<=s.looks) (a:(nR.getD s.looks Jc).code=4):look ⟨3,tx,to⟩ nR s=.inr (l6 4 s.hand (s.steps+1)):=by
 rw [Bl h h2 h3,R3 X0,Y3 a]
theorem iB (h:J2 s.hand.data.toList=true) (h2:¬ 14<=s.looks) (h3:¬ nR.length<=s.looks) (b:¬ (nR.getD s.looks Jc).code=4) (a:(nR.getD s.looks Jc).code=0):look ⟨3,tx,to⟩ nR s=.inl ⟨(nR.getD s.looks Jc).tx,s.out,s.pc+1,s.looks+1,s.steps+1⟩:=by
 rw [Bl h h2 h3,R3 X0,R3 b,Y3 a]
theorem vC (h:J2 s.hand.data.toList=true) (h2:¬ 14<=s.looks) (h3:¬ nR.length<=s.looks) (b:¬ (nR.getD s.looks Jc).code=4) (a:¬ (nR.getD s.looks Jc).code=0):look ⟨3,tx,to⟩ nR s=.inr (l6 5 s.hand (s.steps+1)):=by
 rw [Bl h h2 h3,R3 X0,R3 b,R3 a]
end
theorem GJ {T:List I3} {arg:ByteArray} {nR:List R2} {x:I3} {s a:ST} (hx:T.getD s.pc A_=x) (c:s.pc<T.length) (hT:T.length<=40) (b:s.steps<200) (h:T.all Zb=true) (i:arg.size<=300) (d:Tp nR=true) (g:Fit nR s) (ho:On T arg nR s) (e:act arg nR x s=.inl a):Fit nR a/\On T arg nR a:=by
 have f:Zb x=true:=by rw [<- hx];exact Vq h c
 exact ⟨QB f i d g O0 b e,kL ho (by rw [xy c b,hx];exact e)⟩
theorem gF {T:List I3} {arg:ByteArray} {nR:List R2} {x:I3} {s:ST} {r:TN} (hx:T.getD s.pc A_=x) (b:s.pc<T.length) (a:s.steps<200) (ho:On T arg nR s) (e:act arg nR x s=.inr r):fin T arg nR=r:=
 zz ho O0 (by rw [xy b a,hx];exact e)
theorem oH {T:List I3} {arg:ByteArray} {nR:List R2} {s:ST} (h:T.length<=s.pc) (a:Fit nR s) (ho:On T arg nR s):fin T arg nR=brk s.pc s.steps:=
 zz ho a.steps (by unfold step;rw [if_pos h])
theorem zt {T:List I3} {arg:ByteArray} {nR:List R2} {s:ST} (h:s.pc<T.length) (h2:s.steps=200) (ho:On T arg nR s):fin T arg nR=l6 3 ⟨#[]⟩ s.steps:=
 zz ho O0 (by unfold step;rw [if_neg O0,if_pos O0])
theorem FI (l:List UInt8) (s:ByteArray):Q3 l++s=Q3 (l++s.data.toList):=by
 apply Hd;simp [Q3]
end Go.Proofs.YtdjaajjndfbpmaaGreatDoor
