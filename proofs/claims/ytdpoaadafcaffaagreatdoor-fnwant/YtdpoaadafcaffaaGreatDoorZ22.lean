import Derived.Test.YtdpoaadafcaffaaGreatDoorRG
import Derived.Test.YtdpoaadafcaffaaGreatDoorZ17
import Derived.Test.YtdpoaadafcaffaaGreatDoorZ10
set_option linter.unusedVariables false
set_option maxHeartbeats 8000000
set_option maxRecDepth 100000
namespace Go.Proofs.YtdpoaadafcaffaaGreatDoor
open Proofs.Tryz
open Go.RowKit
variable {w w':World} {N b g k:Nat} {ss:List (List UInt8)}
theorem VF (l:List UInt8) (w:World) (hs:l.length<=1048700) (hm:N8 w):
 Calls prog 91 #[.string (K3 l),.string ⟨#[10]⟩] w fun e w'=>e=.returned (.tuple #[.string (K3 (Lib.cut l [10]).1),.string (K3 (Lib.cut l [10]).2.1),.bool (Lib.cut l [10]).2.2])/\Below w.heap.size w w':=by
 obtain ⟨_,m,hm⟩:=hm;refine (Tryz.strings_Cut (K3 l) ⟨#[10]⟩ m w (by rw [Y2];omega) hm).mono ?_;rintro e w' ⟨rfl,n,rfl⟩;exact ⟨rfl,below_drewN n⟩
theorem YI (l:List UInt8) (w:World) (hs:l.length<=300) (hsh:Z5 w) (hmx:N8 w):
 Calls prog 92 #[.string (K3 l)] w fun e w'=>Ij l e/\Below w.heap.size w w':=pK (K3 l) w (by rw [Y2];exact hs) hsh hmx
def JI (w:World) (l:List UInt8) (e:Ending) (w':World):Prop:=∃ (is:List I3) (ok:Bool) (v:Value),e=.returned (.tuple #[.agg #[v],.bool ok])/\w'.ownsRow w.heap.size 121 3 v is.length (D5 is)/\p_ l is ok
theorem gp {o:Obj} (h:w.heap[k]?=some o) (a b:Obj):((w.alloc a).alloc b).heap[k]?=some o:=by
 have hk:=F4 h;rw [Below.heap_alloc _ _ _ X3,Below.heap_alloc _ _ _ hk];exact h
theorem M5 (hg:g=w.heap.size) (o:Obj):(w.alloc o).heap[g]?=some o:=by
 subst hg;exact Array.getElem?_push_size
theorem c53 (s:ByteArray) (w:World) (hs:s.size<=1048576) (hsh:Z5 w) (hmx:N8 w):
 Calls prog 53 #[.string s] w fun e w'=>JI w s.data.toList e w'/\Below w.heap.size w w':=by
 have JN:=Q0 hsh;have sP:=Q0 hmx;clear hsh hmx;have hlen:s.data.toList.length=s.size:=U0;obtain ⟨i0,hi,hz0,hz1,hz2⟩:=info_parts Jk;by_cases KL:300<s.size
 · have HR:Hid (p_ s.data.toList [] false):=Be O0
   go_enter func53,ntmps53;go_wp2;refine bodyPost_ret (v:=.tuple #[.agg #[.slice none 0 0],.bool false]) (by simp [results,Tryz.results53,go_sem]) rfl ⟨⟨[],false,_,rfl,World.ownsRow_nil _ _ _ _,HR.out⟩,bA⟩
 have hBR:Below w.heap.size w (w.alloc (.cells #[.slice none 0 0] 109)):=bA;have HS:=Q0 ((Kq s).symm);go_enter func53,ntmps53
 go_wp2_with fail
 go_loopw [5] (fun r wr=>∃ (l:List UInt8) (is:List I3) (v:Value),r=.string (K3 l)/\Hid (Way s.data.toList is l)/\Hid (wr.heap[w.heap.size+1]?=some (.cells #[v] 109 (0,0)))/\wr.ownsRow (w.heap.size+2) 121 3 v is.length (D5 is)/\Below (w.heap.size+1) (w.alloc (.cells #[.slice none 0 0] 109)) wr/\w.heap.size+2<=wr.heap.size) (fun r _=>strOf r)
 case atStart=>
  refine ⟨s.data.toList,[],.slice none 0 0,by rw [<- HS.out],sj _,M5 U0 _,World.ownsRow_nil _ _ _ _,(Below.refl _ _).alloc U0 _,U0⟩
 obtain ⟨l,is,v,rfl,EM,hT,hown,hbx,qO⟩:=hrel;have hb:=hBR.trans (hbx.mono O0);have hRr:wr.cell? ⟨w.heap.size,0,none⟩=some (.slice none 0 0):=(hbx.cell (p:=⟨w.heap.size,0,none⟩) U0).trans (by simp [go_sem]);have iX:wr.frozen? ⟨w.heap.size,0,none⟩=false:=(hbx.frozen (p:=⟨w.heap.size,0,none⟩) U0).trans (by simp [go_sem]);have aZ:wr.cell? ⟨w.heap.size+1,0,none⟩=some v:=by rw [Lib.cell_of_heap hT.out];rfl
 have hTf:=Lib.frozen_of_heap hT.out 0;obtain ⟨hwl,hwt⟩:=vo EM.out;by_cases hl:l=[]
 · subst hl
   have hnl:(K3 []).toList=[]:=by rw [ByteArray.toList_eq];rfl
   obtain ⟨W1,W2⟩:=zo EM.out O0;have HW1:=Q0 W1;have HW2:=Q0 W2;clear W1 W2;obtain ⟨ao,cp,hv,hat⟩:=U6 hown;subst hv;have HAT:=Q0 hat;clear hat EM
   go_wp2_with fail
   refine (NH ao cp is wr (fun i=>Nat.le_trans (hwt i) O0) O0 HAT.out (F7 JN.out hb)).mono ?_;rintro e w5 ⟨rfl,hb5⟩;have NN:=bT hb hb5;have wS:=(hb5.cell (p:=⟨w.heap.size,0,none⟩) X3).trans hRr;have a2a:=(hb5.frozen (p:=⟨w.heap.size,0,none⟩) X3).trans iX;have a2b:=(hb5.cell (p:=⟨w.heap.size+1,0,none⟩) X3).trans aZ;have hown5:=ownsRow_below hown hb5;clear hRr iX aZ hTf hb5 hown;cases hok:Yb is
   · have HR:=Q0 (HW2.out hok)
     clear hok HW1 HW2;go_wp2;refine bodyPost_ret (v:=.tuple #[.agg #[.slice none 0 0],.bool false]) (by simp [results,Tryz.results53,go_sem,World.cell?_setCell_same _ _ _ wS]) rfl ⟨⟨[],false,_,rfl,World.ownsRow_nil _ _ _ _,HR.out⟩,NN.setCell U0 _⟩
   have HR:=Q0 (HW1.out hok);clear hok HW1 HW2;go_wp2;refine bodyPost_ret (v:=.tuple #[.agg #[.slice ao is.length cp],.bool true]) (by simp [results,Tryz.results53,go_sem,World.cell?_setCell_same _ _ _ wS]) rfl ⟨⟨is,true,_,rfl,V4 (ownsRow_setCell_below hown5 (by show w.heap.size<w.heap.size+2;omega) _) O0,HR.out⟩,NN.setCell U0 _⟩
 have e0:(K3 l).toList.isEmpty=false:=by
  rw [ByteArray.toList_eq]
  cases l with
  | nil=>exact absurd rfl hl
  | cons a r=>rfl
 have e1:¬ (K3 l).toList=[]:=fun h=>by rw [h] at e0;cases e0
 go_wp2_with fail
 refine (VF l _ O0 (P8 sP.out hb)).mono ?_;rintro e w1 ⟨rfl,hb1⟩;have hB1:=bT hb hb1;have hc:=ZB l;have hcl:(Lib.cut l [10]).1.length<=300:=by
  rcases hc with ⟨_,h,_⟩ | ⟨_,h,_⟩
  · have:=congrArg List.length h
    rw [List.length_append] at this;omega
  rw [h];omega
 have HC:=Q0 hc;clear hc;generalize (Lib.cut l [10]).1=ca at*;generalize (Lib.cut l [10]).2.1=cb at*;generalize (Lib.cut l [10]).2.2=cf at*
 go_wp2_with fail
 refine (YI ca _ hcl (F7 JN.out hB1) (P8 sP.out hB1)).mono ?_;rintro e w2 ⟨⟨x,ok,rfl,hbody⟩,hb2⟩;have hB2:=bT hB1 hb2;have VM:=bT hb1 hb2;have a0t:=(VM.cell (p:=⟨w.heap.size,0,none⟩) X3).trans hRr;have a0u:=(VM.frozen (p:=⟨w.heap.size,0,none⟩) X3).trans iX;have hz2':=VM.size;have SX:=past (by show w.heap.size<w2.heap.size;omega) a0t;have a3U:=Ya (by show w.heap.size<w2.heap.size;omega) a0u;have hT2:=(VM.block _ O0).trans hT.out;have a0v:w2.cell? ⟨w.heap.size+1,0,none⟩=some v:=by rw [Lib.cell_of_heap hT2];rfl
 have a0w:=Lib.frozen_of_heap hT2 0;have HT2:=Q0 hT2;have a3V:=past (by show w.heap.size+1<w2.heap.size;omega) a0v;have a3W:=Ya (by show w.heap.size+1<w2.heap.size;omega) a0w;have hown2:=ownsRow_below hown VM;have TL:=hbx.trans (VM.mono O0);clear hT2 hRr iX aZ hTf hb1 hb2 VM hbx hown hT a0t a0u a0v a0w;have FAIL:Hid ((cf=false\/ok=false)->p_ s.data.toList [] false):=by
  intro hf;refine Ig EM.out hl fun y q hy e=>?_;rcases HC.out with ⟨h1,h2,h3⟩ | ⟨h1,h2,h3⟩
  · rcases hf with hf | hf
    · rw [hf] at h1;cases h1
    have:=(ul h3 (N_ y) (h2.symm.trans e)).1;exact hbody.2 hf y hy this
  apply h3;rw [e];simp
 have GO:Hid (cf=true->ok=true->Way s.data.toList (is++[x]) cb/\cb.length<l.length):=by
  intro h1 h2;rcases HC.out with ⟨_,hll,h3⟩ | ⟨h1',_,_⟩
  · refine ⟨Ll (a:=ca) (by rw [<- hll];exact EM.out) (hbody.1 h2),?_⟩
    rw [hll];simp;omega
  rw [h1] at h1';cases h1'
 clear HC hbody EM;by_cases hgo:cf=true/\ok=true
 · obtain ⟨rfl,rfl⟩:=hgo
   obtain ⟨hw1,hw2⟩:=GO.out rfl rfl;have HW:=Q0 hw1;clear FAIL GO hw1;have hne:v.ownBlock≠some (w.heap.size+1):=fun e=>by have:=(hown2.lt _ e).1;omega
   have xW:=Q0 hne;clear hne
   go_wp2_with (at_builtin;refine wpList_append_own _ rfl _ _ 107 rfl (w.heap.size+2) 121 i0 (.agg #[.int .i64 0,.string ⟨#[]⟩,.int .i64 0]) 3 32 underlying107 hi hz0 hz1 hz2 rfl J3 _ _ _ rfl ((hown2.alloc _).alloc _) ⟨w2.heap.size+1,0,none⟩ 1 1 [_,_,_] rfl rfl (Ff U0 _ _ _ _) (by intro u hu;simp at hu;rcases hu with rfl | rfl | rfl <;> rfl) (by unfold maxLen;omega) O0 X3 ?_;intro v' w3 hown3 hgrow _;have HB3:Hid (w3.heap[w.heap.size+1]?=some (.cells #[v] 109 (0,0))):=Eb (v:=v) (gp HT2.out _ _) xW.out hgrow;have HG:Hid (Below (w.heap.size+1) (w.alloc (.cells #[.slice none 0 0] 109)) w3):=((TL.alloc O0 _).alloc X3 _).grown hgrow X3 (fun k hk=>by have:=(hown2.lt k hk).1;omega);have hz3:w2.heap.size+2<=w3.heap.size:=(by have:=hgrow.size;simp at this;omega);obtain ⟨ao,cp,rfl⟩:=E8 hown3;have d1:w3.cell? ⟨w.heap.size+1,0,none⟩=some v:=(by rw [Lib.cell_of_heap HB3.out];rfl);have f1:w3.frozen? ⟨w.heap.size+1,0,none⟩=false:=Lib.frozen_of_heap HB3.out 0;clear hgrow)
   go_roundw
   case rel=>
    refine ⟨cb,is++[x],.slice ao (is.length+1) cp,rfl,HW,?_,?_,HG.out.setCell U0 _,X3⟩
    · exact heap_setCell_same w3 (w.heap.size+1) 0 _ _ _ HB3.out
    rw [m_,List.length_append];exact ownsRow_setCell_below hown3 (by show w.heap.size+1<w.heap.size+2;omega) _
   case measure=>simp [strOf,Y2];exact hw2
 have HR:=Q0 (FAIL.out (by cases cf <;> cases ok <;> simp_all));clear FAIL GO;have hend:∀ o,Below w.heap.size w ((w2.alloc o).setCell ⟨w.heap.size,0,none⟩ (.slice none 0 0)):=fun o=>(hB2.alloc hB2.size _).setCell U0 _;cases cf <;> cases ok
 · go_wp2
   refine bodyPost_ret (v:=.tuple #[.agg #[.slice none 0 0],.bool false]) (by simp [results,Tryz.results53,go_sem,World.cell?_setCell_same _ _ _ (SX _)]) rfl ⟨⟨[],false,_,rfl,World.ownsRow_nil _ _ _ _,HR.out⟩,hend _⟩
 · go_wp2
   refine bodyPost_ret (v:=.tuple #[.agg #[.slice none 0 0],.bool false]) (by simp [results,Tryz.results53,go_sem,World.cell?_setCell_same _ _ _ (SX _)]) rfl ⟨⟨[],false,_,rfl,World.ownsRow_nil _ _ _ _,HR.out⟩,hend _⟩
 · go_wp2
   refine bodyPost_ret (v:=.tuple #[.agg #[.slice none 0 0],.bool false]) (by simp [results,Tryz.results53,go_sem,World.cell?_setCell_same _ _ _ (SX _)]) rfl ⟨⟨[],false,_,rfl,World.ownsRow_nil _ _ _ _,HR.out⟩,hend _⟩
 exact absurd ⟨rfl,rfl⟩ hgo
theorem wB (l:List UInt8) (w:World) (hs:l.length<=1048700):
 Calls prog 121 #[.string (K3 l),.int .i64 1] w fun e w'=>(∃ g cp,e=.returned (.tuple #[.slice (some ⟨g,0,none⟩) 1 cp,.string (K3 (Z0 l))])/\w.heap.size<=g/\P6 w' g [U1 l])/\Below w.heap.size w w':=lJ (K3 l) w (by rw [Y2];exact hs)
theorem FE (l:List UInt8) (w:World) (hs:l.length<=1048700):
 Calls prog 156 #[.string (K3 l)] w fun e w'=>e=.returned (.int .i64 (n29 l))/\Below w.heap.size w w':=c156 (K3 l) w (by rw [Y2];exact hs)
theorem Yu (l:List UInt8) (w:World) (hs:l.length<=1048700):
 Calls prog 122 #[.string (K3 l)] w fun e w'=>(∃ t,e=.returned (.string (K3 t))/\t.length<=l.length+1/\∀ q,l=J4 q->t=q)/\Below w.heap.size w w':=by
 have:=jH (K3 l) w (by rw [Y2];exact hs);rw [Y2] at this;exact this
theorem I9 (l:List UInt8):(U1 l).length<=l.length/\(Z0 l).length<=l.length:=by
 refine ⟨(List.takeWhile_sublist _).length_le,?_⟩;unfold Z0;rw [List.length_drop];have:(l.dropWhile (· !=32)).length<=l.length:=(List.dropWhile_sublist _).length_le;omega
theorem Nb {is:List I3} {x:I3} (h:∀ j,(is.getD j K9).tx.size<=N) (hx:x.tx.size<=N) (j:Nat):((is++[x]).getD j K9).tx.size<=N:=by
 rcases Nat.lt_trichotomy j is.length with hj | hj | hj
 · have:(is++[x]).getD j K9=is.getD j K9:=by simp [List.getD,List.getElem?_append_left hj]
   rw [this];exact h j
 · subst hj
   have:(is++[x]).getD is.length K9=x:=by simp [List.getD]
   rw [this];exact hx
 have:(is++[x]).getD j K9=K9:=by simp [List.getD,List.getElem?_eq_none (show (is++[x]).length<=j by simp;omega)]
 rw [this];exact Nat.zero_le _
theorem La (h:P6 w g ss) (hb:But b w w') (hne:g≠b):P6 w' g ss:=
 ⟨Nat.lt_of_lt_of_le h.1 hb.size,fun i hi=>by rw [hb.cell (by exact h.1) (by exact hne)];exact h.2 i hi⟩
theorem Od {row:Option Nat} (h:P6 w g ss) (hb:w.grownBy w' row) (hne:some g≠row):P6 w' g ss:=
 ⟨Nat.lt_of_lt_of_le h.1 hb.size,fun i hi=>by
  have:=h.2 i hi;unfold World.cell? at this ⊢;rw [hb.block g h.1 hne];exact this⟩
end Go.Proofs.YtdpoaadafcaffaaGreatDoor
namespace Go.Proofs.YtdpoaadafcaffaaGreatDoor
open Go.RowKit
structure ST where
 hand:ByteArray
 out:List UInt8
 pc:Nat
 looks:Nat
 steps:Nat
structure TN where
 over:Bool
 code:Int
 text:ByteArray
 has:Bool
 name:ByteArray
 steps:Int
def TN.v (t:TN):Value:=.agg #[.bool t.over,.int .i64 t.code,.string t.text,.bool t.has,.string t.name,.int .i64 t.steps]
def R5:TN:=⟨false,0,⟨#[]⟩,false,⟨#[]⟩,0⟩
def P5 (c:Int) (t:ByteArray) (k:Int):TN:=⟨true,c,t,false,⟨#[]⟩,k⟩
def Ea (h:ByteArray) (n:Int):ByteArray:=if n<((Z6 10 h.data.toList).length:Int) then K3 ((Z6 10 h.data.toList).getD n.toNat []) else ⟨#[]⟩
def look (x:I3) (EL:List R2) (s:ST):ST ⊕ TN:=
 if Y1 s.hand.data.toList=false then .inr (P5 4 ⟨#[63]⟩ (s.steps+1))
 else if 14<=s.looks then .inr (P5 3 ⟨#[]⟩ (s.steps+1))
 else if EL.length<=s.looks then .inr ⟨false,0,⟨#[]⟩,x.op==4,s.hand,s.steps+1⟩
 else if x.op=4 then .inl ⟨if (EL.getD s.looks Oa).code=4 then ⟨#[48]⟩ else ⟨#[49]⟩,s.out,s.pc+1,s.looks+1,s.steps+1⟩
 else if (EL.getD s.looks Oa).code=4 then .inr (P5 4 s.hand (s.steps+1))
 else if (EL.getD s.looks Oa).code=0 then .inl ⟨(EL.getD s.looks Oa).tx,s.out,s.pc+1,s.looks+1,s.steps+1⟩
 else .inr (P5 5 s.hand (s.steps+1))
def brk (p:Nat) (k:Int):TN:=P5 2 (K3 (Lib.decDigits p)) k
def act (arg:ByteArray) (EL:List R2) (x:I3) (s:ST):ST ⊕ TN:=
 if x.op=1 then .inl ⟨x.tx,s.out,s.pc+1,s.looks,s.steps+1⟩
 else if x.op=2 then .inl ⟨arg,s.out,s.pc+1,s.looks,s.steps+1⟩
 else if x.op=5 then (if 300<s.out.length+s.hand.size then .inr (brk s.pc (s.steps+1)) else .inl ⟨s.hand,s.out++s.hand.data.toList,s.pc+1,s.looks,s.steps+1⟩)
 else if x.op=6 then (if 300<s.hand.size+x.tx.size then .inr (brk s.pc (s.steps+1)) else .inl ⟨s.hand++x.tx,s.out,s.pc+1,s.looks,s.steps+1⟩)
 else if x.op=7 then .inl ⟨Ea s.hand x.to,s.out,s.pc+1,s.looks,s.steps+1⟩
 else if x.op=8 then .inl ⟨s.hand,s.out,if s.hand.data.toList=x.tx.data.toList then x.to.toNat else s.pc+1,s.looks,s.steps+1⟩
 else if x.op=9 then .inl ⟨s.hand,s.out,x.to.toNat,s.looks,s.steps+1⟩
 else if x.op=10 then .inr (P5 0 (K3 s.out) (s.steps+1))
 else if x.op=11 then .inr (P5 1 s.hand (s.steps+1))
 else look x EL s
def step (T:List I3) (arg:ByteArray) (EL:List R2) (s:ST):ST ⊕ TN:=
 if T.length<=s.pc then .inr (brk s.pc s.steps) else if 200<=s.steps then .inr (P5 3 ⟨#[]⟩ s.steps) else act arg EL (T.getD s.pc K9) s
def Ku (T:List I3) (arg:ByteArray) (EL:List R2):Nat->ST->TN
 | 0,_=>R5
 | n+1,s=>match step T arg EL s with
  | .inl s'=>Ku T arg EL n s'
  | .inr r=>r
def s0:ST:=⟨⟨#[]⟩,[],0,0,0⟩
def fin (T:List I3) (arg:ByteArray) (EL:List R2):TN:=Ku T arg EL 202 s0
def On (T:List I3) (arg:ByteArray) (EL:List R2) (s:ST):Prop:=fin T arg EL=Ku T arg EL (202 - s.steps) s
def Xk (EL:List R2):Bool:=EL.all fun r=>vr r.code r.tx.data.toList
structure Fit (EL:List R2) (s:ST):Prop where
 hand:s.hand.size<=300
 out:s.out.length<=300
 pc:s.pc<=41
 looks:s.looks<=14
 most:s.looks<=EL.length
 steps:s.steps<=200
theorem Mr (T:List I3) (arg:ByteArray) (EL:List R2):On T arg EL s0:=rfl
theorem Pj (EL:List R2):Fit EL s0:=⟨by simp [s0,ByteArray.size],by simp [s0],by simp [s0],by simp [s0],by simp [s0],by simp [s0]⟩
theorem Zt {T:List I3} {arg:ByteArray} {EL:List R2} {s:ST} {r:TN} (h:On T arg EL s) (hs:s.steps<=200) (e:step T arg EL s=.inr r):fin T arg EL=r:=by
 unfold On at h;obtain ⟨m,hm⟩:∃ m,202 - s.steps=m+1:=⟨201 - s.steps,O0⟩;rw [h,hm,Ku,e]
theorem En {arg:ByteArray} {EL:List R2} {x:I3} {s s':ST} (e:act arg EL x s=.inl s'):s'.steps=s.steps+1:=by
 unfold act look at e;by_cases h1:x.op=1
 · rw [if_pos h1] at e
   injection e with e;subst e;rfl
 rw [if_neg h1] at e;by_cases h2:x.op=2
 · rw [if_pos h2] at e
   injection e with e;subst e;rfl
 rw [if_neg h2] at e;by_cases h5:x.op=5
 · rw [if_pos h5] at e
   by_cases hc:300<s.out.length+s.hand.size
   · rw [if_pos hc] at e
     injection e
   rw [if_neg hc] at e;injection e with e;subst e;rfl
 rw [if_neg h5] at e;by_cases h6:x.op=6
 · rw [if_pos h6] at e
   by_cases hc:300<s.hand.size+x.tx.size
   · rw [if_pos hc] at e
     injection e
   rw [if_neg hc] at e;injection e with e;subst e;rfl
 rw [if_neg h6] at e;by_cases h7:x.op=7
 · rw [if_pos h7] at e
   injection e with e;subst e;rfl
 rw [if_neg h7] at e;by_cases h8:x.op=8
 · rw [if_pos h8] at e
   injection e with e;subst e;rfl
 rw [if_neg h8] at e;by_cases h9:x.op=9
 · rw [if_pos h9] at e
   injection e with e;subst e;rfl
 rw [if_neg h9] at e;by_cases h10:x.op=10
 · rw [if_pos h10] at e
   injection e
 rw [if_neg h10] at e;by_cases h11:x.op=11
 · rw [if_pos h11] at e
   injection e
 rw [if_neg h11] at e;by_cases ga:Y1 s.hand.data.toList=false
 · rw [if_pos ga] at e
   injection e
 rw [if_neg ga] at e;by_cases gb:14<=s.looks
 · rw [if_pos gb] at e
   injection e
 rw [if_neg gb] at e;by_cases gc:EL.length<=s.looks
 · rw [if_pos gc] at e
   injection e
 rw [if_neg gc] at e;by_cases h4:x.op=4
 · rw [if_pos h4] at e
   injection e with e;subst e;rfl
 rw [if_neg h4] at e;by_cases gd:(EL.getD s.looks Oa).code=4
 · rw [if_pos gd] at e
   injection e
 rw [if_neg gd] at e;by_cases ge:(EL.getD s.looks Oa).code=0
 · rw [if_pos ge] at e
   injection e with e;subst e;rfl
 rw [if_neg ge] at e;injection e
theorem Jq {T:List I3} {arg:ByteArray} {EL:List R2} {s s':ST} (e:step T arg EL s=.inl s'):s.steps<200/\s'.steps=s.steps+1:=by
 unfold step at e;split at e
 · injection e
 split at e
 · injection e
 exact ⟨O0,En e⟩
theorem IG {T:List I3} {arg:ByteArray} {EL:List R2} {s s':ST} (h:On T arg EL s) (e:step T arg EL s=.inl s'):On T arg EL s':=by
 obtain ⟨h1,h2⟩:=Jq e;unfold On at h ⊢;obtain ⟨m,hm⟩:∃ m,202 - s.steps=m+1:=⟨201 - s.steps,O0⟩;rw [h,hm,Ku,e];simp only
 congr 1
 omega
theorem Lt {T:List I3} {arg:ByteArray} {EL:List R2} {s:ST} (h1:s.pc<T.length) (h2:s.steps<200):step T arg EL s=act arg EL (T.getD s.pc K9) s:=by
 unfold step;rw [if_neg O0,if_neg O0]
theorem Vt {EL:List R2} (h:Xk EL=true) {k:Nat} (hk:k<EL.length):vr (EL.getD k Oa).code (EL.getD k Oa).tx.data.toList=true:=by
 have e:EL.getD k Oa=EL[k]:=by simp [hk]
 rw [e];unfold Xk at h;rw [List.all_eq_true] at h;exact h _ (List.getElem_mem hk)
theorem Pf {c:Int} {l:List UInt8} (h:vr c l=true):l.length<=300:=by
 rcases Nat.lt_or_ge 300 l.length with h' | h'
 · rw [fq h'] at h;cases h
 exact h'
theorem Jm (h:ByteArray) (n:Int):(Ea h n).size<=h.size:=by
 unfold Ea;split
 · rw [Y2]
   have:=Sj 10 h.data.toList n.toNat;simpa using this
 exact Nat.zero_le _
theorem vw {arg:ByteArray} {EL:List R2} {x:I3} {s s':ST} (hx:Aa x=true) (ha:arg.size<=300) (hr:Xk EL=true) (h:Fit EL s) (hpc:s.pc<=40) (hst:s.steps<200) (e:act arg EL x s=.inl s'):Fit EL s':=by
 obtain ⟨f1,f2,f3,f4,f5,f6⟩:=h;obtain ⟨_,_,_,x4,x5,x6⟩:=A9 hx;have hl:=Jm s.hand x.to;unfold act look at e;by_cases h1:x.op=1
 · rw [if_pos h1] at e
   injection e with e;subst e;exact ⟨by show x.tx.size<=300;omega,f2,by show s.pc+1<=41;omega,f4,f5,by show s.steps+1<=200;omega⟩
 rw [if_neg h1] at e;by_cases h2:x.op=2
 · rw [if_pos h2] at e
   injection e with e;subst e;exact ⟨ha,f2,by show s.pc+1<=41;omega,f4,f5,by show s.steps+1<=200;omega⟩
 rw [if_neg h2] at e;by_cases h5:x.op=5
 · rw [if_pos h5] at e
   by_cases hc:300<s.out.length+s.hand.size
   · rw [if_pos hc] at e
     injection e
   rw [if_neg hc] at e;injection e with e;subst e;exact ⟨f1,by show (s.out++s.hand.data.toList).length<=300;rw [List.length_append];simp;omega,by show s.pc+1<=41;omega,f4,f5,by show s.steps+1<=200;omega⟩
 rw [if_neg h5] at e;by_cases h6:x.op=6
 · rw [if_pos h6] at e
   by_cases hc:300<s.hand.size+x.tx.size
   · rw [if_pos hc] at e
     injection e
   rw [if_neg hc] at e;injection e with e;subst e;exact ⟨by show (s.hand++x.tx).size<=300;rw [ByteArray.size_append];omega,f2,by show s.pc+1<=41;omega,f4,f5,by show s.steps+1<=200;omega⟩
 rw [if_neg h6] at e;by_cases h7:x.op=7
 · rw [if_pos h7] at e
   injection e with e;subst e;exact ⟨by show (Ea s.hand x.to).size<=300;omega,f2,by show s.pc+1<=41;omega,f4,f5,by show s.steps+1<=200;omega⟩
 rw [if_neg h7] at e;by_cases h8:x.op=8
 · rw [if_pos h8] at e
   injection e with e;subst e;exact ⟨f1,f2,by show (if s.hand.data.toList=x.tx.data.toList then x.to.toNat else s.pc+1)<=41;split <;> omega,f4,f5,by show s.steps+1<=200;omega⟩
 rw [if_neg h8] at e;by_cases h9:x.op=9
 · rw [if_pos h9] at e
   injection e with e;subst e;exact ⟨f1,f2,by show x.to.toNat<=41;omega,f4,f5,by show s.steps+1<=200;omega⟩
 rw [if_neg h9] at e;by_cases h10:x.op=10
 · rw [if_pos h10] at e
   injection e
 rw [if_neg h10] at e;by_cases h11:x.op=11
 · rw [if_pos h11] at e
   injection e
 rw [if_neg h11] at e;by_cases ga:Y1 s.hand.data.toList=false
 · rw [if_pos ga] at e
   injection e
 rw [if_neg ga] at e;by_cases gb:14<=s.looks
 · rw [if_pos gb] at e
   injection e
 rw [if_neg gb] at e;by_cases gc:EL.length<=s.looks
 · rw [if_pos gc] at e
   injection e
 rw [if_neg gc] at e;by_cases h4:x.op=4
 · rw [if_pos h4] at e
   injection e with e;subst e;exact ⟨by show ByteArray.size (if _ then _ else _)<=300;split <;> decide,f2,by show s.pc+1<=41;omega,by show s.looks+1<=14;omega,by show s.looks+1<=EL.length;omega,by show s.steps+1<=200;omega⟩
 rw [if_neg h4] at e;by_cases gd:(EL.getD s.looks Oa).code=4
 · rw [if_pos gd] at e
   injection e
 rw [if_neg gd] at e;by_cases ge:(EL.getD s.looks Oa).code=0
 · rw [if_pos ge] at e
   injection e with e;subst e;exact ⟨by have h:=Pf (Vt hr (k:=s.looks) O0);show (EL.getD s.looks Oa).tx.size<=300;simpa using h,f2,by show s.pc+1<=41;omega,by show s.looks+1<=14;omega,by show s.looks+1<=EL.length;omega,by show s.steps+1<=200;omega⟩
 rw [if_neg ge] at e;injection e
def Z7 (T:List I3) (arg:ByteArray) (EL:List R2):TN:=if Yb T=true/\arg.size<=300/\EL.length<=14/\Xk EL=true then fin T arg EL else R5
section
variable {arg:ByteArray} {EL:List R2} {tx:ByteArray} {to:Int} {s:ST}
theorem gF:act arg EL ⟨1,tx,to⟩ s=.inl ⟨tx,s.out,s.pc+1,s.looks,s.steps+1⟩:=rfl
theorem YE:act arg EL ⟨2,tx,to⟩ s=.inl ⟨arg,s.out,s.pc+1,s.looks,s.steps+1⟩:=rfl
theorem Qy (h:300<s.out.length+s.hand.size):act arg EL ⟨5,tx,to⟩ s=.inr (brk s.pc (s.steps+1)):=if_pos h
theorem jA (h:¬ 300<s.out.length+s.hand.size):act arg EL ⟨5,tx,to⟩ s=.inl ⟨s.hand,s.out++s.hand.data.toList,s.pc+1,s.looks,s.steps+1⟩:=if_neg h
theorem Az (h:300<s.hand.size+tx.size):act arg EL ⟨6,tx,to⟩ s=.inr (brk s.pc (s.steps+1)):=if_pos h
theorem iA (h:¬ 300<s.hand.size+tx.size):act arg EL ⟨6,tx,to⟩ s=.inl ⟨s.hand++tx,s.out,s.pc+1,s.looks,s.steps+1⟩:=if_neg h
theorem Pz:act arg EL ⟨7,tx,to⟩ s=.inl ⟨Ea s.hand to,s.out,s.pc+1,s.looks,s.steps+1⟩:=rfl
theorem pz (h:s.hand.data.toList=tx.data.toList):act arg EL ⟨8,tx,to⟩ s=.inl ⟨s.hand,s.out,to.toNat,s.looks,s.steps+1⟩:=by
 show Sum.inl (ST.mk s.hand s.out (if s.hand.data.toList=tx.data.toList then to.toNat else s.pc+1) s.looks (s.steps+1))=_;rw [if_pos h]
theorem Yy (h:¬ s.hand.data.toList=tx.data.toList):act arg EL ⟨8,tx,to⟩ s=.inl ⟨s.hand,s.out,s.pc+1,s.looks,s.steps+1⟩:=by
 show Sum.inl (ST.mk s.hand s.out (if s.hand.data.toList=tx.data.toList then to.toNat else s.pc+1) s.looks (s.steps+1))=_;rw [if_neg h]
theorem dF:act arg EL ⟨9,tx,to⟩ s=.inl ⟨s.hand,s.out,to.toNat,s.looks,s.steps+1⟩:=rfl
theorem Oy:act arg EL ⟨10,tx,to⟩ s=.inr (P5 0 (K3 s.out) (s.steps+1)):=rfl
theorem XA:act arg EL ⟨11,tx,to⟩ s=.inr (P5 1 s.hand (s.steps+1)):=rfl
theorem Zn:act arg EL ⟨3,tx,to⟩ s=look ⟨3,tx,to⟩ EL s:=rfl
theorem Gs:act arg EL ⟨4,tx,to⟩ s=look ⟨4,tx,to⟩ EL s:=rfl
theorem Pd {x:I3} (h:Y1 s.hand.data.toList=false):look x EL s=.inr (P5 4 ⟨#[63]⟩ (s.steps+1)):=if_pos h
theorem Af {x:I3} (h:Y1 s.hand.data.toList=true) (h2:14<=s.looks):look x EL s=.inr (P5 3 ⟨#[]⟩ (s.steps+1)):=by
 unfold look;rw [if_neg (by simp [h]),if_pos h2]
theorem Gg {x:I3} (h:Y1 s.hand.data.toList=true) (h2:¬ 14<=s.looks) (h3:EL.length<=s.looks):look x EL s=.inr ⟨false,0,⟨#[]⟩,x.op==4,s.hand,s.steps+1⟩:=by
 unfold look;rw [if_neg (by simp [h]),if_neg h2,if_pos h3]
theorem ui {x:I3} (h:Y1 s.hand.data.toList=true) (h2:¬ 14<=s.looks) (h3:¬ EL.length<=s.looks):look x EL s=if x.op=4 then .inl ⟨if (EL.getD s.looks Oa).code=4 then ⟨#[48]⟩ else ⟨#[49]⟩,s.out,s.pc+1,s.looks+1,s.steps+1⟩
 else if (EL.getD s.looks Oa).code=4 then .inr (P5 4 s.hand (s.steps+1))
 else if (EL.getD s.looks Oa).code=0 then .inl ⟨(EL.getD s.looks Oa).tx,s.out,s.pc+1,s.looks+1,s.steps+1⟩
 else .inr (P5 5 s.hand (s.steps+1)):=by
 unfold look;rw [if_neg (by simp [h]),if_neg h2,if_neg h3]
theorem Wv (h:Y1 s.hand.data.toList=true) (h2:¬ 14<=s.looks) (h3:¬ EL.length<=s.looks) (h4:(EL.getD s.looks Oa).code=4):look ⟨4,tx,to⟩ EL s=.inl ⟨⟨#[48]⟩,s.out,s.pc+1,s.looks+1,s.steps+1⟩:=by
 rw [ui h h2 h3,if_pos rfl,if_pos h4]
theorem Dw (h:Y1 s.hand.data.toList=true) (h2:¬ 14<=s.looks) (h3:¬ EL.length<=s.looks) (h4:¬ (EL.getD s.looks Oa).code=4):look ⟨4,tx,to⟩ EL s=.inl ⟨⟨#[49]⟩,s.out,s.pc+1,s.looks+1,s.steps+1⟩:=by
 rw [ui h h2 h3,if_pos rfl,if_neg h4]
theorem Ov (h:Y1 s.hand.data.toList=true) (h2:¬ 14<=s.looks) (h3:¬ EL.length<=s.looks) (h4:(EL.getD s.looks Oa).code=4):look ⟨3,tx,to⟩ EL s=.inr (P5 4 s.hand (s.steps+1)):=by
 rw [ui h h2 h3,if_neg U0,if_pos h4]
theorem Rv (h:Y1 s.hand.data.toList=true) (h2:¬ 14<=s.looks) (h3:¬ EL.length<=s.looks) (h4:¬ (EL.getD s.looks Oa).code=4) (h5:(EL.getD s.looks Oa).code=0):look ⟨3,tx,to⟩ EL s=.inl ⟨(EL.getD s.looks Oa).tx,s.out,s.pc+1,s.looks+1,s.steps+1⟩:=by
 rw [ui h h2 h3,if_neg U0,if_neg h4,if_pos h5]
theorem Fw (h:Y1 s.hand.data.toList=true) (h2:¬ 14<=s.looks) (h3:¬ EL.length<=s.looks) (h4:¬ (EL.getD s.looks Oa).code=4) (h5:¬ (EL.getD s.looks Oa).code=0):look ⟨3,tx,to⟩ EL s=.inr (P5 5 s.hand (s.steps+1)):=by
 rw [ui h h2 h3,if_neg U0,if_neg h4,if_neg h5]
end
theorem mF {T:List I3} {arg:ByteArray} {EL:List R2} {x:I3} {s s':ST} (hx:T.getD s.pc K9=x) (hpc:s.pc<T.length) (hT:T.length<=40) (hst:s.steps<200) (hall:T.all Aa=true) (ha:arg.size<=300) (hr:Xk EL=true) (hf:Fit EL s) (ho:On T arg EL s) (e:act arg EL x s=.inl s'):Fit EL s'/\On T arg EL s':=by
 have hok:Aa x=true:=by rw [<- hx];exact Dl hall hpc
 exact ⟨vw hok ha hr hf O0 hst e,IG ho (by rw [Lt hpc hst,hx];exact e)⟩
theorem bB {T:List I3} {arg:ByteArray} {EL:List R2} {x:I3} {s:ST} {r:TN} (hx:T.getD s.pc K9=x) (hpc:s.pc<T.length) (hst:s.steps<200) (ho:On T arg EL s) (e:act arg EL x s=.inr r):fin T arg EL=r:=
 Zt ho O0 (by rw [Lt hpc hst,hx];exact e)
theorem Wz {T:List I3} {arg:ByteArray} {EL:List R2} {s:ST} (h:T.length<=s.pc) (hf:Fit EL s) (ho:On T arg EL s):fin T arg EL=brk s.pc s.steps:=
 Zt ho hf.steps (by unfold step;rw [if_pos h])
theorem ko {T:List I3} {arg:ByteArray} {EL:List R2} {s:ST} (h:s.pc<T.length) (h2:s.steps=200) (ho:On T arg EL s):fin T arg EL=P5 3 ⟨#[]⟩ s.steps:=
 Zt ho O0 (by unfold step;rw [if_neg O0,if_pos O0])
theorem UD (l:List UInt8) (s:ByteArray):K3 l++s=K3 (l++s.data.toList):=by
 apply ByteArray.ext;simp [K3]
end Go.Proofs.YtdpoaadafcaffaaGreatDoor
namespace Go.Proofs.YtdpoaadafcaffaaGreatDoor
open Proofs.Tryz
open Go.RowKit
open Classical in
noncomputable def w_ (l:List UInt8):List I3×Bool:=if h:∃ p:List I3×Bool,p_ l p.1 p.2 then h.choose else ([],false)
theorem Zq {l:List UInt8} {is:List I3} {ok:Bool} (h:p_ l is ok):w_ l=(is,ok):=by
 have hx:∃ p:List I3×Bool,p_ l p.1 p.2:=⟨(is,ok),h⟩;have e:w_ l=hx.choose:=by unfold w_;exact dif_pos hx
 obtain ⟨e1,e2⟩:=Cu hx.choose_spec h;rw [e];exact Prod.ext e1 e2
structure RS where
 has:Bool
 T:List I3
 EL:List R2
def Pg:RS:=⟨false,[],[]⟩
noncomputable def Qa (tl ar:ByteArray) (l:List UInt8):TN:=if (w_ l).2=true then Z7 (w_ l).1 ar [] else P5 7 tl 0
noncomputable def M6 (tl ar:ByteArray) (s:RS) (r:R2):TN×RS:=
 if s.has=true then (Z7 s.T ar (s.EL++[r]),⟨true,s.T,s.EL++[r]⟩)
 else if r.code=0 then (Qa tl ar r.tx.data.toList,⟨(w_ r.tx.data.toList).2,(w_ r.tx.data.toList).1,s.EL⟩)
 else if r.code=4 then (P5 4 tl 0,s) else (P5 5 tl 0,s)
theorem Ze {l:List UInt8} {is:List I3} {ok:Bool} (h:p_ l is ok):is.length<=40/\∀ i,(is.getD i K9).tx.size<=300:=by
 cases ok
 · rw [(h.2 rfl).1];exact ⟨U0,fun i=>by simp [K9,ByteArray.size]⟩
 have hk:=(h.1 rfl).1;unfold Yb at hk;simp only [Bool.and_eq_true,decide_eq_true_eq] at hk;refine ⟨hk.1.2,fun i=>?_⟩;rcases Nat.lt_or_ge i is.length with h' | h'
 · have:=List.all_eq_true.1 hk.2 (is.getD i K9) (by simp [List.getD,h'])
   unfold Aa at this;simp only [Bool.and_eq_true,decide_eq_true_eq] at this;omega
 have e:is.getD i K9=K9:=by simp [List.getD,List.getElem?_eq_none h']
 rw [e];simp [K9,ByteArray.size]
theorem Ot (l:List UInt8):w_ l=([],false)\/p_ l (w_ l).1 (w_ l).2:=by
 unfold w_;split
 · rename_i h;exact .inr h.choose_spec
 exact .inl rfl
theorem jk (l:List UInt8):(w_ l).1.length<=40/\∀ i,((w_ l).1.getD i K9).tx.size<=300:=by
 rcases Ot l with h | h
 · rw [h];exact ⟨U0,fun i=>by simp [K9,ByteArray.size]⟩
 exact Ze h
structure Wp (s:RS):Prop where
 tl:s.T.length<=40
 ts:∀ i,(s.T.getD i K9).tx.size<=300
 rs:∀ i,(s.EL.getD i Oa).tx.size<=1048576
theorem pq:Wp Pg:=⟨by simp [Pg],fun i=>by simp [Pg,K9,ByteArray.size],fun i=>by simp [Pg,Oa,ByteArray.size]⟩
theorem Le {rs:List R2} {x:R2} {M:Nat} (h:∀ i,(rs.getD i Oa).tx.size<=M) (hx:x.tx.size<=M) (i:Nat):((rs++[x]).getD i Oa).tx.size<=M:=by
 rcases Nat.lt_trichotomy i rs.length with h' | h' | h'
 · have e:(rs++[x]).getD i Oa=rs.getD i Oa:=by simp [List.getD,List.getElem?_append_left h']
   rw [e];exact h i
 · have e:(rs++[x]).getD i Oa=x:=by subst h';simp [List.getD]
   rw [e];exact hx
 have e:(rs++[x]).getD i Oa=Oa:=by simp [List.getD,List.getElem?_eq_none (show (rs++[x]).length<=i by simp;omega)]
 rw [e];exact Nat.zero_le _
theorem yD {tl ar:ByteArray} {s:RS} {r:R2} (h:Wp s) (hr:r.tx.size<=1048576):Wp (M6 tl ar s r).2:=by
 unfold M6;split
 · exact ⟨h.tl,h.ts,Le h.rs hr⟩
 split
 · exact ⟨(jk _).1,(jk _).2,h.rs⟩
 split <;> exact h
theorem WB {tl ar:ByteArray} {s:RS} {r:R2}:(M6 tl ar s r).2.EL.length<=s.EL.length+1:=by
 unfold M6;split
 · simp
 split
 · simp
 split <;> simp
def X8 (rs:List R2):List Value:=rs.flatMap fun x=>[.int .i64 x.code,.string x.tx]
theorem Ug (rs:List R2) (x:R2):X8 (rs++[x])=X8 rs++[.int .i64 x.code,.string x.tx]:=by simp [X8]
theorem Yp (rs:List R2) (i:Nat) (h:i<rs.length):(X8 rs)[i*2]?=some (.int .i64 (rs.getD i Oa).code)/\(X8 rs)[i*2+1]?=some (.string (rs.getD i Oa).tx):=by
 induction rs generalizing i with
 | nil=>simp at h
 | cons x r ih=>
  cases i with
  | zero=>exact ⟨rfl,rfl⟩
  | succ i=>
   have:=ih i (by simpa using h);have e:∀ j,(X8 (x::r))[(i+1)*2+j]?=(X8 r)[i*2+j]?:=fun j=>by
    show ([Value.int .i64 x.code,.string x.tx]++X8 r)[(i+1)*2+j]?=_;rw [List.getElem?_append_right X3]
    congr 1
    simp;omega
   have e0:=e 0;simp only [Nat.add_zero] at e0;rw [e0,e 1];exact this
theorem Mj {w:World} {base:Nat} {v:Value} {rs:List R2} (h:w.ownsRow base 31 2 v rs.length (X8 rs)):∃ a cap,v=.slice a rs.length cap/\pg w a rs:=by
 have h':=h;rcases h.2 with ⟨hv,h0⟩ | ⟨g,cap,cur,hv,hg,hh,_⟩
 · exact ⟨none,0,by rw [hv,h0],.inl (List.length_eq_zero_iff.1 h0)⟩
 refine ⟨some ⟨g,0,none⟩,cap,hv,?_⟩;subst hv;refine .inr ⟨g,0,rfl,F4 hh,fun i hi=>?_⟩;obtain ⟨e0,e1⟩:=Yp rs i hi;rw [Nat.zero_add,h'.cellAt _ O0,h'.cellAt _ O0];exact ⟨e0,e1⟩
structure S_ (base b0 b1 b2 b3:Nat) (u:World) (nm tl ar:ByteArray) (s:RS) (v1 v2:Value):Prop where
 PQ:base<=b0
 VN:base<=b1
 QQ:base<=b2
 aS:base<=b3
 h0:u.heap[b0]?=some (.cells #[.bool s.has] 4 (0,0))
 h1:u.heap[b1]?=some (.cells #[v1] 110 (0,0))
 h2:u.heap[b2]?=some (.cells #[v2] 109 (0,0))
 h3:u.heap[b3]?=some (.cells #[.string nm,.string tl,.string ar] 35 (0,0))
 o1:u.ownsRow base 31 2 v1 s.EL.length (X8 s.EL)
 o2:u.ownsRow base 121 3 v2 s.T.length (D5 s.T)
theorem j6 {u:World} {a b:Nat} {x y:Array Value} {t t':TypeId} {p q:Nat×Nat} (h:u.heap[a]?=some (.cells x t p)) (k:u.heap[b]?=some (.cells y t' q)) (hne:t≠t'):a≠b:=fun e=>by
 subst e;rw [h] at k;injection k with k;injection k with _ k _;exact hne k
theorem S_.below {base b0 b1 b2 b3:Nat} {u u':World} {nm tl ar:ByteArray} {s:RS} {v1 v2:Value} (h:S_ base b0 b1 b2 b3 u nm tl ar s v1 v2) (hb:Below u.heap.size u u'):S_ base b0 b1 b2 b3 u' nm tl ar s v1 v2:=
 ⟨h.PQ,h.VN,h.QQ,h.aS,(hb.block _ (F4 h.h0)).trans h.h0,(hb.block _ (F4 h.h1)).trans h.h1,(hb.block _ (F4 h.h2)).trans h.h2,(hb.block _ (F4 h.h3)).trans h.h3,ownsRow_below h.o1 hb,ownsRow_below h.o2 hb⟩
theorem Xn {rs:List R2} {k:Nat} (h:k<rs.length) (ha:Xk (rs.take k)=true) (hx:vr (rs.getD k Oa).code (rs.getD k Oa).tx.data.toList=true):Xk (rs.take (k+1))=true:=by
 have e:rs.getD k Oa=rs[k]:=by simp [h]
 rw [e] at hx;unfold Xk at ha ⊢;rw [List.take_succ_eq_append_getElem h,List.all_append,ha];simp [hx]
theorem Iq {rs:List R2} {k:Nat} (h:k<rs.length) (hx:vr (rs.getD k Oa).code (rs.getD k Oa).tx.data.toList=false):Xk rs=false:=by
 have e:rs.getD k Oa=rs[k]:=by simp [h]
 rw [e] at hx;unfold Xk;rw [List.all_eq_false];exact ⟨rs[k],List.getElem_mem h,by simp [hx]⟩
theorem ll {T:List I3} {arg:ByteArray} {EL:List R2} (h:Yb T=false\/300<arg.size\/14<EL.length\/Xk EL=false):Z7 T arg EL=R5:=by
 unfold Z7;rw [if_neg];rintro ⟨h1,h2,h3,h4⟩;rcases h with h | h | h | h
 · rw [h] at h1;cases h1
 · omega
 · omega
 rw [h] at h4;cases h4
theorem Nr {T:List I3} {arg:ByteArray} {EL:List R2} (h1:Yb T=true) (h2:arg.size<=300) (h3:EL.length<=14) (h4:Xk EL=true):Z7 T arg EL=fin T arg EL:=by
 unfold Z7;rw [if_pos ⟨h1,h2,h3,h4⟩]
theorem PI (c:Int) (t:ByteArray) (k:Int) (w:World):
 Calls prog 126 #[.int .i64 c,.string t,.int .i64 k] w fun e w'=>e=.returned (P5 c t k).v/\Below w.heap.size w w':=by
 go_enter func126,ntmps126;go_wp2;refine bodyPost_ret (v:=(P5 c t k).v) (by simp [results,Tryz.results126,go_sem,P5,TN.v]) rfl ⟨rfl,bA⟩
theorem eH (s:ByteArray) (w:World) (hs:s.size<=1048700):
 Calls prog 120 #[.string s,.int .u8 10] w fun e w'=>(∃ g cp,e=.returned (.slice (some ⟨g,0,none⟩) (Z6 10 s.data.toList).length cp)/\w.heap.size<=g/\P6 w' g (Z6 10 s.data.toList))/\Below w.heap.size w w':=PH s 10 w hs
theorem bJ (s:ByteArray) (n:Int) (w:World) (hs:s.size<=1048700) (h0:0<=n):
 Calls prog 155 #[.string s,.int .i64 n] w fun e w'=>e=.returned (.string (Ea s n))/\Below w.heap.size w w':=by
 obtain ⟨m,rfl⟩:=Int.eq_ofNat_of_zero_le h0;obtain ⟨hc1,hc2⟩:=Pk 10 s.data.toList;have hlen:s.data.toList.length=s.size:=U0;have a3d:(Z6 10 s.data.toList).length<=1048701:=O0;go_enter func155,ntmps155
 go_wp2_with fail
 refine (eH s _ hs).mono ?_;rintro e w1 ⟨⟨g,cp,rfl,hg,hln⟩,hb1⟩;have HL:=Q0 hln;have HT:Hid (Ea s (m:Int)=if (m:Int)<((Z6 10 s.data.toList).length:Int) then K3 ((Z6 10 s.data.toList).getD m []) else ⟨#[]⟩):=rfl;clear hln hlen hc2;generalize Z6 10 s.data.toList=L at*;by_cases hlt:(m:Int)<(L.length:Int)
 · have l0:=HL.out.2 m O0
   have uU:Hid (Ea s (m:Int)=K3 (L.getD m [])):=by rw [HT.out,if_pos hlt];rfl
   clear HT;go_wp2;go_ret;exact ⟨by rw [uU.out];rfl,hb1⟩
 have uU:Hid (Ea s (m:Int)=⟨#[]⟩):=by rw [HT.out,if_neg hlt];rfl
 clear HT;go_wp2;go_ret;exact ⟨by rw [uU.out];rfl,hb1⟩
def z6:Array Value:=#[.bool false,.int .i64 0,.string ⟨#[]⟩,.bool false,.string ⟨#[]⟩,.int .i64 0]
def W0 (a:Option Addr) (n cap:Nat) (w:World):World:=(w.alloc (.cells #[.slice a n cap] 109)).alloc (.cells z6 42)
theorem Z4 (a:Option Addr) (n cap:Nat) (w:World):Below w.heap.size w (W0 a n cap w):=bA.alloc U0 _
theorem y_ (a:Option Addr) (n cap:Nat) (w:World):(W0 a n cap w).heap.size=w.heap.size+2:=by simp [W0]
theorem Q5 {a:Option Addr} {n cap:Nat} {w u:World} (h:Below (w.heap.size+2) (W0 a n cap w) u):
 (u.cell? ⟨w.heap.size,0,none⟩=some (.slice a n cap)/\u.cell? ⟨w.heap.size+1,0,none⟩=some (.bool false)/\u.cell? ⟨w.heap.size+1,1,none⟩=some (.int .i64 0)/\u.cell? ⟨w.heap.size+1,2,none⟩=some (.string ⟨#[]⟩)/\u.cell? ⟨w.heap.size+1,3,none⟩=some (.bool false)/\u.cell? ⟨w.heap.size+1,4,none⟩=some (.string ⟨#[]⟩)/\u.cell? ⟨w.heap.size+1,5,none⟩=some (.int .i64 0))/\∀ j,u.frozen? ⟨w.heap.size+1,j,none⟩=false:=by
 have e:∀ b j,b<w.heap.size+2->u.cell? ⟨b,j,none⟩=(W0 a n cap w).cell? ⟨b,j,none⟩:=fun b j hb=>h.cell (by simpa using hb);have f:∀ j,u.frozen? ⟨w.heap.size+1,j,none⟩=(W0 a n cap w).frozen? ⟨w.heap.size+1,j,none⟩:=fun j=>h.frozen U0;refine ⟨?_,fun j=>?_⟩
 · rw [e _ _ O0,e _ _ O0,e _ _ O0,e _ _ O0,e _ _ O0,e _ _ O0,e _ _ O0]
   simp [W0,z6]
 rw [f];simp [W0,z6]
theorem O7 {a:Option Addr} {n cap:Nat} {w u:World} (h:Below (w.heap.size+2) (W0 a n cap w) u):u.heap[w.heap.size+1]?=some (.cells z6 42 (0,0)):=by
 rw [h.block _ O0];exact M5 U0 _
theorem K_ {u:World} {B:Nat} (h:u.heap[B]?=some (.cells z6 42 (0,0))) (v0 v1 v2 v3 v4 v5:Value):
 (u.setCell ⟨B,0,none⟩ v0).cell? ⟨B,0,none⟩=some v0/\((u.setCell ⟨B,0,none⟩ v0).setCell ⟨B,1,none⟩ v1).cell? ⟨B,1,none⟩=some v1/\(((u.setCell ⟨B,0,none⟩ v0).setCell ⟨B,1,none⟩ v1).setCell ⟨B,2,none⟩ v2).cell? ⟨B,2,none⟩=some v2/\((((u.setCell ⟨B,0,none⟩ v0).setCell ⟨B,1,none⟩ v1).setCell ⟨B,2,none⟩ v2).setCell ⟨B,3,none⟩ v3).cell? ⟨B,3,none⟩=some v3/\(((((u.setCell ⟨B,0,none⟩ v0).setCell ⟨B,1,none⟩ v1).setCell ⟨B,2,none⟩ v2).setCell ⟨B,3,none⟩ v3).setCell ⟨B,4,none⟩ v4).cell? ⟨B,4,none⟩=some v4/\((((((u.setCell ⟨B,0,none⟩ v0).setCell ⟨B,1,none⟩ v1).setCell ⟨B,2,none⟩ v2).setCell ⟨B,3,none⟩ v3).setCell ⟨B,4,none⟩ v4).setCell ⟨B,5,none⟩ v5).cell? ⟨B,5,none⟩=some v5:=by
 have h0:=heap_setCell_same u B 0 _ 42 v0 h;have h1:=heap_setCell_same _ B 1 _ 42 v1 h0;have h2:=heap_setCell_same _ B 2 _ 42 v2 h1;have h3:=heap_setCell_same _ B 3 _ 42 v3 h2;have h4:=heap_setCell_same _ B 4 _ 42 v4 h3;have h5:=heap_setCell_same _ B 5 _ 42 v5 h4;exact ⟨Lib.cell_of_heap h0 0,Lib.cell_of_heap h1 1,Lib.cell_of_heap h2 2,Lib.cell_of_heap h3 3,Lib.cell_of_heap h4 4,Lib.cell_of_heap h5 5⟩
theorem M4 {u:World} {B m:Nat} (hm:m<=B) (v0 v1 v2 v3 v4 v5:Value):Below m u ((((((u.setCell ⟨B,0,none⟩ v0).setCell ⟨B,1,none⟩ v1).setCell ⟨B,2,none⟩ v2).setCell ⟨B,3,none⟩ v3).setCell ⟨B,4,none⟩ v4).setCell ⟨B,5,none⟩ v5):=
 ((((((Below.refl m u).setCell (by exact hm) _).setCell (by exact hm) _).setCell (by exact hm) _).setCell (by exact hm) _).setCell (by exact hm) _).setCell (by exact hm) _
theorem UI (a:Option Addr) (cap:Nat) (T:List I3) (arg:ByteArray) (a2:Option Addr) (cap2:Nat) (EL:List R2) (w:World) (hs:∀ i,(T.getD i K9).tx.size<=1048700) (hl:T.length<=1048576) (hat:t_ w a T) (hno:Yb T=false\/300<arg.size\/14<EL.length) (hsh:Z5 w) (har:arg.size<=1048576) (hrl:EL.length<=1048576):
 Calls prog 52 #[.agg #[.slice a T.length cap],.string arg,.slice a2 EL.length cap2] w fun e w'=>e=.returned (Z7 T arg EL).v/\Below w.heap.size w w':=by
 have RQ:=Q0 hat;have HZ:Hid (Z7 T arg EL=R5):=ll (by
  rcases hno with h | h | h
  · exact .inl h
  · exact .inr (.inl h)
  exact .inr (.inr (.inl h)))
 have JN:=Q0 hsh;clear hat hsh;have key:∀ w1:World,Below (w.heap.size+2) (W0 a T.length cap w) w1->Hid (Below w.heap.size w w1):=fun w1 h=>(Z4 a T.length cap w).trans (h.mono O0);by_cases hok:Yb T=true;rotate_left
 · have hok':Yb T=false:=by simpa using hok
   clear hno hok;go_enter func52,ntmps52
   go_wp2_with fail
   refine (NH a cap T (W0 a T.length cap w) hs hl (O_ RQ.out (Z4 _ _ _ _)) (F7 JN.out (Z4 _ _ _ _))).mono ?_;rintro e w1 ⟨rfl,hb1⟩;rw [hok'];have hb:Below (w.heap.size+2) (W0 a T.length cap w) w1:=by rw [y_] at hb1;exact hb1
   obtain ⟨⟨t0,q0,q1,q2,q3,q4,q5⟩,hfz⟩:=Q5 hb;go_wp2;obtain ⟨s0,s1,s2,s3,s4,s5⟩:=K_ (O7 hb) (.bool false) (.int .i64 0) (.string ⟨#[]⟩) (.bool false) (.string ⟨#[]⟩) (.int .i64 0);refine bodyPost_ret (v:=R5.v) (by simp [results,Tryz.results52,go_sem,s0,s1,s2,s3,s4,s5,R5,TN.v]) rfl ⟨by rw [HZ.out],?_⟩;exact (key w1 hb).out.trans (M4 O0 _ _ _ _ _ _)
 have hno':300<arg.size\/14<EL.length:=by
  rcases hno with h | h
  · rw [hok] at h;cases h
  exact h
 clear hno;by_cases KL:300<arg.size
 · clear hno'
   go_enter func52,ntmps52
   go_wp2_with fail
   refine (NH a cap T (W0 a T.length cap w) hs hl (O_ RQ.out (Z4 _ _ _ _)) (F7 JN.out (Z4 _ _ _ _))).mono ?_;rintro e w1 ⟨rfl,hb1⟩;rw [hok];have hb:Below (w.heap.size+2) (W0 a T.length cap w) w1:=by rw [y_] at hb1;exact hb1
   obtain ⟨⟨t0,q0,q1,q2,q3,q4,q5⟩,hfz⟩:=Q5 hb;go_wp2;obtain ⟨s0,s1,s2,s3,s4,s5⟩:=K_ (O7 hb) (.bool false) (.int .i64 0) (.string ⟨#[]⟩) (.bool false) (.string ⟨#[]⟩) (.int .i64 0);refine bodyPost_ret (v:=R5.v) (by simp [results,Tryz.results52,go_sem,s0,s1,s2,s3,s4,s5,R5,TN.v]) rfl ⟨by rw [HZ.out],?_⟩;exact (key w1 hb).out.trans (M4 O0 _ _ _ _ _ _)
 have DU:14<EL.length:=O0;clear hno';go_enter func52,ntmps52
 go_wp2_with fail
 refine (NH a cap T (W0 a T.length cap w) hs hl (O_ RQ.out (Z4 _ _ _ _)) (F7 JN.out (Z4 _ _ _ _))).mono ?_;rintro e w1 ⟨rfl,hb1⟩;rw [hok];have hb:Below (w.heap.size+2) (W0 a T.length cap w) w1:=by rw [y_] at hb1;exact hb1
 obtain ⟨⟨t0,q0,q1,q2,q3,q4,q5⟩,hfz⟩:=Q5 hb;go_wp2;obtain ⟨s0,s1,s2,s3,s4,s5⟩:=K_ (O7 hb) (.bool false) (.int .i64 0) (.string ⟨#[]⟩) (.bool false) (.string ⟨#[]⟩) (.int .i64 0);refine bodyPost_ret (v:=R5.v) (by simp [results,Tryz.results52,go_sem,s0,s1,s2,s3,s4,s5,R5,TN.v]) rfl ⟨by rw [HZ.out],?_⟩;exact (key w1 hb).out.trans (M4 O0 _ _ _ _ _ _)
theorem IJ (c:Int) (t:ByteArray) (w:World):
 Calls prog 54 #[.int .i64 c,.string t] w fun e w'=>e=.returned (.agg #[.bool true,.int .i64 c,.string t,.bool false,.string ⟨#[]⟩,.int .i64 0])/\Below w.heap.size w w':=by
 go_enter func54,ntmps54;go_wp2;refine bodyPost_ret (v:=.agg #[.bool true,.int .i64 c,.string t,.bool false,.string ⟨#[]⟩,.int .i64 0]) (by simp [results,Tryz.results54,go_sem]) rfl ⟨rfl,?_⟩;exact bA
theorem iK (nm tl ar:ByteArray) (w:World):
 Calls prog 27 #[.agg #[.string nm,.string tl,.string ar]] w fun e w'=>e=.returned (.agg #[.bool false,.int .i64 0,.string ⟨#[]⟩,.bool false,.string tl,.int .i64 0])/\Below w.heap.size w w':=by
 go_enter func27,ntmps27;go_wp2;refine bodyPost_ret (v:=.agg #[.bool false,.int .i64 0,.string ⟨#[]⟩,.bool false,.string tl,.int .i64 0]) (by simp [results,Tryz.results27,go_sem]) rfl ⟨rfl,?_⟩;exact bA.alloc U0 _
theorem c28 (nm tl ar:ByteArray) (w:World):
 Calls prog 28 #[.agg #[.string nm,.string tl,.string ar]] w fun e w'=>∃ b0 b1 b2 b3,e=.returned (.func (.func 51) #[] #[.pointer (some ⟨b0,0,none⟩),.pointer (some ⟨b1,0,none⟩),.pointer (some ⟨b2,0,none⟩),.pointer (some ⟨b3,0,none⟩)])/\S_ w.heap.size b0 b1 b2 b3 w' nm tl ar Pg (.slice none 0 0) (.slice none 0 0)/\Below w.heap.size w w':=by
 go_enter func28,ntmps28;go_wp2;go_ret;refine ⟨w.heap.size+1+1+1,w.heap.size+1+1,w.heap.size+1,w.heap.size,rfl,⟨O0,O0,O0,O0,?_,?_,?_,?_,World.ownsRow_nil _ _ _ _,World.ownsRow_nil _ _ _ _⟩,?_⟩
 · exact M5 U0 _
 · rw [Lib.alloc_old _ _ _ U0];exact M5 U0 _
 · rw [Lib.alloc_old _ _ _ (by first | (simp;done) | (simp;omega)),Lib.alloc_old _ _ _ U0];exact M5 U0 _
 · rw [Lib.alloc_old _ _ _ (by first | (simp;done) | (simp;omega)),Lib.alloc_old _ _ _ (by first | (simp;done) | (simp;omega)),Lib.alloc_old _ _ _ U0];exact M5 U0 _
 exact ((bA.alloc U0 _).alloc (by first | (simp;done) | (simp;omega)) _).alloc (by first | (simp;done) | (simp;omega)) _
theorem aH (a:Option Addr) (cap:Nat) (T:List I3) (arg:ByteArray) (a2:Option Addr) (cap2:Nat) (EL:List R2) (w:World) (hs:∀ i,(T.getD i K9).tx.size<=1048700) (hl:T.length<=1048576) (hat:t_ w a T) (hno:Yb T=false\/300<arg.size\/14<EL.length) (har:arg.size<=1048576) (hrl:EL.length<=1048576):
 Calls prog 124 #[.agg #[.slice a T.length cap],.string arg,.slice a2 EL.length cap2] w fun e w'=>e=.returned (Z7 T arg EL).v/\Below w.heap.size w w':=by
 have RQ:=Q0 hat;have HZ:Hid (Z7 T arg EL=R5):=ll (by
  rcases hno with h | h | h
  · exact .inl h
  · exact .inr (.inl h)
  exact .inr (.inr (.inl h)))
 clear hat;have key:∀ w1:World,Below (w.heap.size+2) (W0 a T.length cap w) w1->Hid (Below w.heap.size w w1):=fun w1 h=>(Z4 a T.length cap w).trans (h.mono O0);by_cases hok:Yb T=true;rotate_left
 · have hok':Yb T=false:=by simpa using hok
   clear hno hok;go_enter func124,ntmps124
   go_wp2_with fail
   refine (oI a cap T (W0 a T.length cap w) hs hl (O_ RQ.out (Z4 _ _ _ _))).mono ?_;rintro e w1 ⟨rfl,hb1⟩;rw [hok'];have hb:Below (w.heap.size+2) (W0 a T.length cap w) w1:=by rw [y_] at hb1;exact hb1
   obtain ⟨⟨t0,q0,q1,q2,q3,q4,q5⟩,hfz⟩:=Q5 hb;go_wp2;obtain ⟨s0,s1,s2,s3,s4,s5⟩:=K_ (O7 hb) (.bool false) (.int .i64 0) (.string ⟨#[]⟩) (.bool false) (.string ⟨#[]⟩) (.int .i64 0);refine bodyPost_ret (v:=R5.v) (by simp [results,Tryz.results124,go_sem,s0,s1,s2,s3,s4,s5,R5,TN.v]) rfl ⟨by rw [HZ.out],?_⟩;exact (key w1 hb).out.trans (M4 O0 _ _ _ _ _ _)
 have hno':300<arg.size\/14<EL.length:=by
  rcases hno with h | h
  · rw [hok] at h;cases h
  exact h
 clear hno;by_cases KL:300<arg.size
 · clear hno'
   go_enter func124,ntmps124
   go_wp2_with fail
   refine (oI a cap T (W0 a T.length cap w) hs hl (O_ RQ.out (Z4 _ _ _ _))).mono ?_;rintro e w1 ⟨rfl,hb1⟩;rw [hok];have hb:Below (w.heap.size+2) (W0 a T.length cap w) w1:=by rw [y_] at hb1;exact hb1
   obtain ⟨⟨t0,q0,q1,q2,q3,q4,q5⟩,hfz⟩:=Q5 hb;go_wp2;obtain ⟨s0,s1,s2,s3,s4,s5⟩:=K_ (O7 hb) (.bool false) (.int .i64 0) (.string ⟨#[]⟩) (.bool false) (.string ⟨#[]⟩) (.int .i64 0);refine bodyPost_ret (v:=R5.v) (by simp [results,Tryz.results124,go_sem,s0,s1,s2,s3,s4,s5,R5,TN.v]) rfl ⟨by rw [HZ.out],?_⟩;exact (key w1 hb).out.trans (M4 O0 _ _ _ _ _ _)
 have DU:14<EL.length:=O0;clear hno';go_enter func124,ntmps124
 go_wp2_with fail
 refine (oI a cap T (W0 a T.length cap w) hs hl (O_ RQ.out (Z4 _ _ _ _))).mono ?_;rintro e w1 ⟨rfl,hb1⟩;rw [hok];have hb:Below (w.heap.size+2) (W0 a T.length cap w) w1:=by rw [y_] at hb1;exact hb1
 obtain ⟨⟨t0,q0,q1,q2,q3,q4,q5⟩,hfz⟩:=Q5 hb;go_wp2;obtain ⟨s0,s1,s2,s3,s4,s5⟩:=K_ (O7 hb) (.bool false) (.int .i64 0) (.string ⟨#[]⟩) (.bool false) (.string ⟨#[]⟩) (.int .i64 0);refine bodyPost_ret (v:=R5.v) (by simp [results,Tryz.results124,go_sem,s0,s1,s2,s3,s4,s5,R5,TN.v]) rfl ⟨by rw [HZ.out],?_⟩;exact (key w1 hb).out.trans (M4 O0 _ _ _ _ _ _)
end Go.Proofs.YtdpoaadafcaffaaGreatDoor
