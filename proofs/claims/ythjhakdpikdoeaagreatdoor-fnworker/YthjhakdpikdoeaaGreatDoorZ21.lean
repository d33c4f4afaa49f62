import Derived.Test.YthjhakdpikdoeaaGreatDoorRG
import Derived.Test.YthjhakdpikdoeaaGreatDoorZ17
import Derived.Test.YthjhakdpikdoeaaGreatDoorZ10
set_option linter.unusedVariables false
set_option maxHeartbeats 8000000
set_option maxRecDepth 100000
namespace Go.Proofs.YthjhakdpikdoeaaGreatDoor
open Proofs.Tryz
open Go.RowKit
variable {w w':World} {N b g k:Nat} {ss:List (List UInt8)}
theorem c94n (l:List UInt8) (w:World) (hs:l.length<=1048700) (hm:MaxAt w):
 Calls prog 94 #[.string (ofL l),.string ⟨#[10]⟩] w fun e w'=>e=.returned (.tuple #[.string (ofL (Lib.cut l [10]).1),.string (ofL (Lib.cut l [10]).2.1),.bool (Lib.cut l [10]).2.2])/\Below w.heap.size w w':=by
 obtain ⟨_,m,hm⟩:=hm;refine (Tryz.strings_Cut (ofL l) ⟨#[10]⟩ m w (by rw [ofL_size];omega) hm).mono ?_;rintro e w' ⟨rfl,n,rfl⟩;exact ⟨rfl,below_drewN n⟩
theorem c95' (l:List UInt8) (w:World) (hs:l.length<=300) (hsh:ShapesAt w) (hmx:MaxAt w):
 Calls prog 95 #[.string (ofL l)] w fun e w'=>Is41 l e/\Below w.heap.size w w':=c95 (ofL l) w (by rw [ofL_size];exact hs) hsh hmx
def Is13 (w:World) (l:List UInt8) (e:Ending) (w':World):Prop:=∃ (is:List I3) (ok:Bool) (v:Value),e=.returned (.tuple #[.agg #[v],.bool ok])/\w'.ownsRow w.heap.size 92 3 v is.length (insCells is)/\IsRead l is ok
theorem alloc2_block {o:Obj} (h:w.heap[k]?=some o) (a b:Obj):((w.alloc a).alloc b).heap[k]?=some o:=by
 have hk:=blk_lt h;rw [Below.heap_alloc _ _ _ so_,Below.heap_alloc _ _ _ hk];exact h
theorem alloc_new (hg:g=w.heap.size) (o:Obj):(w.alloc o).heap[g]?=some o:=by
 subst hg;exact Array.getElem?_push_size
theorem c72 (s:ByteArray) (w:World) (hs:s.size<=1048576) (hsh:ShapesAt w) (hmx:MaxAt w):
 Calls prog 72 #[.string s] w fun e w'=>Is13 w s.data.toList e w'/\Below w.heap.size w w':=by
 have HSH:Hid (ShapesAt w):=hsh;have HMX:Hid (MaxAt w):=hmx;clear hsh hmx;have hlen:s.data.toList.length=s.size:=sm_;obtain ⟨i0,hi,hz0,hz1,hz2⟩:=info_parts info92;by_cases h300:300<s.size
 · have HR:Hid (IsRead s.data.toList [] false):=read_long om_
   go_enter func72,ntmps72;go_wp2;refine bodyPost_ret (v:=.tuple #[.agg #[.slice none 0 0],.bool false]) (by simp [results,Tryz.results72,go_sem]) rfl ⟨⟨[],false,_,rfl,World.ownsRow_nil _ _ _ _,HR.out⟩,bA⟩
 have hBR:Below w.heap.size w (w.alloc (.cells #[.slice none 0 0] 87)):=bA;have HS:Hid (s=ofL s.data.toList):=(ofL_self s).symm;go_enter func72,ntmps72
 go_wp2_with fail
 go_loopw [5] (fun r wr=>∃ (l:List UInt8) (is:List I3) (v:Value),r=.string (ofL l)/\Hid (Way s.data.toList is l)/\Hid (wr.heap[w.heap.size+1]?=some (.cells #[v] 87 (0,0)))/\wr.ownsRow (w.heap.size+2) 92 3 v is.length (insCells is)/\Below (w.heap.size+1) (w.alloc (.cells #[.slice none 0 0] 87)) wr/\w.heap.size+2<=wr.heap.size) (fun r _=>strOf r)
 case atStart=>
  refine ⟨s.data.toList,[],.slice none 0 0,by rw [<- HS.out],way_start _,alloc_new sm_ _,World.ownsRow_nil _ _ _ _,(Below.refl _ _).alloc sm_ _,sm_⟩
 obtain ⟨l,is,v,rfl,hway,hT,hown,hbx,hzr⟩:=hrel;have hb:Below w.heap.size w wr:=hBR.trans (hbx.mono om_);have hRr:wr.cell? ⟨w.heap.size,0,none⟩=some (.slice none 0 0):=(hbx.cell (p:=⟨w.heap.size,0,none⟩) sm_).trans (by simp [go_sem]);have hRf:wr.frozen? ⟨w.heap.size,0,none⟩=false:=(hbx.frozen (p:=⟨w.heap.size,0,none⟩) sm_).trans (by simp [go_sem]);have hTc:wr.cell? ⟨w.heap.size+1,0,none⟩=some v:=by rw [Lib.cell_of_heap hT.out];rfl
 have hTf:wr.frozen? ⟨w.heap.size+1,0,none⟩=false:=Lib.frozen_of_heap hT.out 0;obtain ⟨hwl,hwt⟩:=way_len hway.out;by_cases hl:l=[]
 · subst hl
   have hnl:(ofL []).toList=[]:=by rw [ByteArray.toList_eq];rfl
   obtain ⟨W1,W2⟩:=way_end hway.out om_;have HW1:Hid (okT is=true->IsRead s.data.toList is true):=W1;have HW2:Hid (okT is=false->IsRead s.data.toList [] false):=W2;clear W1 W2;obtain ⟨ao,cp,hv,hat⟩:=own3_form hown;subst hv;have HAT:Hid (InsAt wr ao is):=hat;clear hat hway
   go_wp2_with fail
   refine (c92 ao cp is wr (fun i=>Nat.le_trans (hwt i) om_) om_ HAT.out (shapes_below HSH.out hb)).mono ?_;rintro e w5 ⟨rfl,hb5⟩;have hB5:Below w.heap.size w w5:=bT hb hb5;have hRr5:w5.cell? ⟨w.heap.size,0,none⟩=some (.slice none 0 0):=(hb5.cell (p:=⟨w.heap.size,0,none⟩) so_).trans hRr;have hRf5:w5.frozen? ⟨w.heap.size,0,none⟩=false:=(hb5.frozen (p:=⟨w.heap.size,0,none⟩) so_).trans hRf;have hTc5:w5.cell? ⟨w.heap.size+1,0,none⟩=some (.slice ao is.length cp):=(hb5.cell (p:=⟨w.heap.size+1,0,none⟩) so_).trans hTc;have hown5:w5.ownsRow (w.heap.size+2) 92 3 (.slice ao is.length cp) is.length (insCells is):=ownsRow_below hown hb5;clear hRr hRf hTc hTf hb5 hown;cases hok:okT is
   · have HR:Hid (IsRead s.data.toList [] false):=HW2.out hok
     clear hok HW1 HW2;go_wp2;refine bodyPost_ret (v:=.tuple #[.agg #[.slice none 0 0],.bool false]) (by simp [results,Tryz.results72,go_sem,World.cell?_setCell_same _ _ _ hRr5]) rfl ⟨⟨[],false,_,rfl,World.ownsRow_nil _ _ _ _,HR.out⟩,hB5.setCell sm_ _⟩
   have HR:Hid (IsRead s.data.toList is true):=HW1.out hok;clear hok HW1 HW2;go_wp2;refine bodyPost_ret (v:=.tuple #[.agg #[.slice ao is.length cp],.bool true]) (by simp [results,Tryz.results72,go_sem,World.cell?_setCell_same _ _ _ hRr5]) rfl ⟨⟨is,true,_,rfl,owns_mono (ownsRow_setCell_below hown5 (by show w.heap.size<w.heap.size+2;omega) _) om_,HR.out⟩,hB5.setCell sm_ _⟩
 have e0:(ofL l).toList.isEmpty=false:=by
  rw [ByteArray.toList_eq]
  cases l with
  | nil=>exact absurd rfl hl
  | cons a r=>rfl
 have e1:¬ (ofL l).toList=[]:=fun h=>by rw [h] at e0;cases e0
 go_wp2_with fail
 refine (c94n l _ om_ (max_below HMX.out hb)).mono ?_;rintro e w1 ⟨rfl,hb1⟩;have hB1:Below w.heap.size w w1:=bT hb hb1;have hc:=cut_10 l;have hcl:(Lib.cut l [10]).1.length<=300:=by
  rcases hc with ⟨_,h,_⟩ | ⟨_,h,_⟩
  · have:=congrArg List.length h
    rw [List.length_append] at this;omega
  rw [h];omega
 have HC:Hid (((Lib.cut l [10]).2.2=true/\l=(Lib.cut l [10]).1++10::(Lib.cut l [10]).2.1/\(10:UInt8)∉(Lib.cut l [10]).1)\/((Lib.cut l [10]).2.2=false/\(Lib.cut l [10]).1=l/\(10:UInt8)∉l)):=hc;clear hc;generalize (Lib.cut l [10]).1=ca at*;generalize (Lib.cut l [10]).2.1=cb at*;generalize (Lib.cut l [10]).2.2=cf at*
 go_wp2_with fail
 refine (c95' ca _ hcl (shapes_below HSH.out hB1) (max_below HMX.out hB1)).mono ?_;rintro e w2 ⟨⟨x,ok,rfl,hbody⟩,hb2⟩;have hB2:Below w.heap.size w w2:=bT hB1 hb2;have hbr2:Below wr.heap.size wr w2:=bT hb1 hb2;have hRr2:w2.cell? ⟨w.heap.size,0,none⟩=some (.slice none 0 0):=(hbr2.cell (p:=⟨w.heap.size,0,none⟩) so_).trans hRr;have hRf2:w2.frozen? ⟨w.heap.size,0,none⟩=false:=(hbr2.frozen (p:=⟨w.heap.size,0,none⟩) so_).trans hRf;have hz2':wr.heap.size<=w2.heap.size:=hbr2.size;have hRr3:=past (by show w.heap.size<w2.heap.size;omega) hRr2;have hRf3:=pastf (by show w.heap.size<w2.heap.size;omega) hRf2;have hT2:w2.heap[w.heap.size+1]?=some (.cells #[v] 87 (0,0)):=(hbr2.block _ om_).trans hT.out;have hTc2:w2.cell? ⟨w.heap.size+1,0,none⟩=some v:=by rw [Lib.cell_of_heap hT2];rfl
 have hTf2:w2.frozen? ⟨w.heap.size+1,0,none⟩=false:=Lib.frozen_of_heap hT2 0;have HT2:Hid (w2.heap[w.heap.size+1]?=some (.cells #[v] 87 (0,0))):=hT2;have hTc3:=past (by show w.heap.size+1<w2.heap.size;omega) hTc2;have hTf3:=pastf (by show w.heap.size+1<w2.heap.size;omega) hTf2;have hown2:w2.ownsRow (w.heap.size+2) 92 3 v is.length (insCells is):=ownsRow_below hown hbr2;have hbx2:Below (w.heap.size+1) (w.alloc (.cells #[.slice none 0 0] 87)) w2:=hbx.trans (hbr2.mono om_);clear hT2 hRr hRf hTc hTf hb1 hb2 hbr2 hbx hown hT hRr2 hRf2 hTc2 hTf2;have FAIL:Hid ((cf=false\/ok=false)->IsRead s.data.toList [] false):=by
  intro hf;refine way_stuck hway.out hl fun y q hy e=>?_;rcases HC.out with ⟨h1,h2,h3⟩ | ⟨h1,h2,h3⟩
  · rcases hf with hf | hf
    · rw [hf] at h1;cases h1
    have:=(split10 h3 (body_no10 y) (h2.symm.trans e)).1;exact hbody.2 hf y hy this
  apply h3;rw [e];simp
 have GO:Hid (cf=true->ok=true->Way s.data.toList (is++[x]) cb/\cb.length<l.length):=by
  intro h1 h2;rcases HC.out with ⟨_,hll,h3⟩ | ⟨h1',_,_⟩
  · refine ⟨way_step (a:=ca) (by rw [<- hll];exact hway.out) (hbody.1 h2),?_⟩
    rw [hll];simp;omega
  rw [h1] at h1';cases h1'
 clear HC hbody hway;by_cases hgo:cf=true/\ok=true
 · obtain ⟨rfl,rfl⟩:=hgo
   obtain ⟨hw1,hw2⟩:=GO.out rfl rfl;have HW:Hid (Way s.data.toList (is++[x]) cb):=hw1;clear FAIL GO hw1;have hne:v.ownBlock≠some (w.heap.size+1):=fun e=>by have:=(hown2.lt _ e).1;omega
   have HNE:Hid (v.ownBlock≠some (w.heap.size+1)):=hne;clear hne
   go_wp2_with (at_builtin;refine wpList_append_own _ rfl _ _ 85 rfl (w.heap.size+2) 92 i0 (.agg #[.int .i64 0,.string ⟨#[]⟩,.int .i64 0]) 3 32 underlying85 hi hz0 hz1 hz2 rfl dc_ _ _ _ rfl ((hown2.alloc _).alloc _) ⟨w2.heap.size+1,0,none⟩ 1 1 [_,_,_] rfl rfl (row3g sm_ _ _ _ _) (by intro u hu;simp at hu;rcases hu with rfl | rfl | rfl <;> rfl) (by unfold maxLen;omega) om_ so_ ?_;intro v' w3 hown3 hgrow _;have HB3:Hid (w3.heap[w.heap.size+1]?=some (.cells #[v] 87 (0,0))):=app_keeps (v:=v) (alloc2_block HT2.out _ _) HNE.out hgrow;have HG:Hid (Below (w.heap.size+1) (w.alloc (.cells #[.slice none 0 0] 87)) w3):=((hbx2.alloc om_ _).alloc so_ _).grown hgrow so_ (fun k hk=>by have:=(hown2.lt k hk).1;omega);have hz3:w2.heap.size+2<=w3.heap.size:=(by have:=hgrow.size;simp at this;omega);obtain ⟨ao,cp,rfl⟩:=row_form3 hown3;have d1:w3.cell? ⟨w.heap.size+1,0,none⟩=some v:=(by rw [Lib.cell_of_heap HB3.out];rfl);have f1:w3.frozen? ⟨w.heap.size+1,0,none⟩=false:=Lib.frozen_of_heap HB3.out 0;clear hgrow)
   go_roundw
   case rel=>
    refine ⟨cb,is++[x],.slice ao (is.length+1) cp,rfl,HW,?_,?_,HG.out.setCell sm_ _,so_⟩
    · exact heap_setCell_same w3 (w.heap.size+1) 0 _ _ _ HB3.out
    rw [insCells_snoc,List.length_append];exact ownsRow_setCell_below hown3 (by show w.heap.size+1<w.heap.size+2;omega) _
   case measure=>simp [strOf,ofL_size];exact hw2
 have HR:Hid (IsRead s.data.toList [] false):=FAIL.out (by cases cf <;> cases ok <;> simp_all);clear FAIL GO;have hend:∀ o,Below w.heap.size w ((w2.alloc o).setCell ⟨w.heap.size,0,none⟩ (.slice none 0 0)):=fun o=>(hB2.alloc hB2.size _).setCell sm_ _;cases cf <;> cases ok
 · go_wp2
   refine bodyPost_ret (v:=.tuple #[.agg #[.slice none 0 0],.bool false]) (by simp [results,Tryz.results72,go_sem,World.cell?_setCell_same _ _ _ (hRr3 _)]) rfl ⟨⟨[],false,_,rfl,World.ownsRow_nil _ _ _ _,HR.out⟩,hend _⟩
 · go_wp2
   refine bodyPost_ret (v:=.tuple #[.agg #[.slice none 0 0],.bool false]) (by simp [results,Tryz.results72,go_sem,World.cell?_setCell_same _ _ _ (hRr3 _)]) rfl ⟨⟨[],false,_,rfl,World.ownsRow_nil _ _ _ _,HR.out⟩,hend _⟩
 · go_wp2
   refine bodyPost_ret (v:=.tuple #[.agg #[.slice none 0 0],.bool false]) (by simp [results,Tryz.results72,go_sem,World.cell?_setCell_same _ _ _ (hRr3 _)]) rfl ⟨⟨[],false,_,rfl,World.ownsRow_nil _ _ _ _,HR.out⟩,hend _⟩
 exact absurd ⟨rfl,rfl⟩ hgo
theorem c88' (l:List UInt8) (w:World) (hs:l.length<=1048700):
 Calls prog 88 #[.string (ofL l),.int .i64 1] w fun e w'=>(∃ g cp,e=.returned (.tuple #[.slice (some ⟨g,0,none⟩) 1 cp,.string (ofL (restOf l))])/\w.heap.size<=g/\LinesAt w' g [wordOf l])/\Below w.heap.size w w':=c88 (ofL l) w (by rw [ofL_size];exact hs)
theorem c89' (l:List UInt8) (w:World) (hs:l.length<=1048700):
 Calls prog 89 #[.string (ofL l)] w fun e w'=>e=.returned (.int .i64 (n29 l))/\Below w.heap.size w w':=c89 (ofL l) w (by rw [ofL_size];exact hs)
theorem c90' (l:List UInt8) (w:World) (hs:l.length<=1048700):
 Calls prog 90 #[.string (ofL l)] w fun e w'=>(∃ t,e=.returned (.string (ofL t))/\t.length<=l.length+1/\∀ q,l=quoteL q->t=q)/\Below w.heap.size w w':=by
 have:=c90 (ofL l) w (by rw [ofL_size];exact hs);rw [ofL_size] at this;exact this
theorem rest_small (l:List UInt8):(wordOf l).length<=l.length/\(restOf l).length<=l.length:=by
 refine ⟨(List.takeWhile_sublist _).length_le,?_⟩;unfold restOf;rw [List.length_drop];have:(l.dropWhile (· !=32)).length<=l.length:=(List.dropWhile_sublist _).length_le;omega
theorem small_snoc {is:List I3} {x:I3} (h:∀ j,(is.getD j i3z).tx.size<=N) (hx:x.tx.size<=N) (j:Nat):((is++[x]).getD j i3z).tx.size<=N:=by
 rcases Nat.lt_trichotomy j is.length with hj | hj | hj
 · have:(is++[x]).getD j i3z=is.getD j i3z:=by simp [List.getD,List.getElem?_append_left hj]
   rw [this];exact h j
 · subst hj
   have:(is++[x]).getD is.length i3z=x:=by simp [List.getD]
   rw [this];exact hx
 have:(is++[x]).getD j i3z=i3z:=by simp [List.getD,List.getElem?_eq_none (show (is++[x]).length<=j by simp;omega)]
 rw [this];exact Nat.zero_le _
theorem lines_but (h:LinesAt w g ss) (hb:But b w w') (hne:g≠b):LinesAt w' g ss:=
 ⟨Nat.lt_of_lt_of_le h.1 hb.size,fun i hi=>by rw [hb.cell (by exact h.1) (by exact hne)];exact h.2 i hi⟩
theorem lines_grown {row:Option Nat} (h:LinesAt w g ss) (hb:w.grownBy w' row) (hne:some g≠row):LinesAt w' g ss:=
 ⟨Nat.lt_of_lt_of_le h.1 hb.size,fun i hi=>by
  have:=h.2 i hi;unfold World.cell? at this ⊢;rw [hb.block g h.1 hne];exact this⟩
end Go.Proofs.YthjhakdpikdoeaaGreatDoor
namespace Go.Proofs.YthjhakdpikdoeaaGreatDoor
open Go.RowKit
structure ST where
 hand:ByteArray
 out:List UInt8
 pc:Nat
 looks:Nat
 steps:Nat
structure TN where
 over:Bool
 code:Int
 text:ByteArray
 has:Bool
 name:ByteArray
 steps:Int
def TN.v (t:TN):Value:=.agg #[.bool t.over,.int .i64 t.code,.string t.text,.bool t.has,.string t.name,.int .i64 t.steps]
def zeroT:TN:=⟨false,0,⟨#[]⟩,false,⟨#[]⟩,0⟩
def overT (c:Int) (t:ByteArray) (k:Int):TN:=⟨true,c,t,false,⟨#[]⟩,k⟩
def lineAt (h:ByteArray) (n:Int):ByteArray:=if n<((cutS 10 h.data.toList).length:Int) then ofL ((cutS 10 h.data.toList).getD n.toNat []) else ⟨#[]⟩
def look (x:I3) (reps:List R2) (s:ST):ST ⊕ TN:=
 if nameOk s.hand.data.toList=false then .inr (overT 4 ⟨#[63]⟩ (s.steps+1))
 else if 14<=s.looks then .inr (overT 3 ⟨#[]⟩ (s.steps+1))
 else if reps.length<=s.looks then .inr ⟨false,0,⟨#[]⟩,x.op==4,s.hand,s.steps+1⟩
 else if x.op=4 then .inl ⟨if (reps.getD s.looks r2z).code=4 then ⟨#[48]⟩ else ⟨#[49]⟩,s.out,s.pc+1,s.looks+1,s.steps+1⟩
 else if (reps.getD s.looks r2z).code=4 then .inr (overT 4 s.hand (s.steps+1))
 else if (reps.getD s.looks r2z).code=0 then .inl ⟨(reps.getD s.looks r2z).tx,s.out,s.pc+1,s.looks+1,s.steps+1⟩
 else .inr (overT 5 s.hand (s.steps+1))
def brk (p:Nat) (k:Int):TN:=overT 2 (ofL (Lib.decDigits p)) k
def act (arg:ByteArray) (reps:List R2) (x:I3) (s:ST):ST ⊕ TN:=
 if x.op=1 then .inl ⟨x.tx,s.out,s.pc+1,s.looks,s.steps+1⟩
 else if x.op=2 then .inl ⟨arg,s.out,s.pc+1,s.looks,s.steps+1⟩
 else if x.op=5 then (if 300<s.out.length+s.hand.size then .inr (brk s.pc (s.steps+1)) else .inl ⟨s.hand,s.out++s.hand.data.toList,s.pc+1,s.looks,s.steps+1⟩)
 else if x.op=6 then (if 300<s.hand.size+x.tx.size then .inr (brk s.pc (s.steps+1)) else .inl ⟨s.hand++x.tx,s.out,s.pc+1,s.looks,s.steps+1⟩)
 else if x.op=7 then .inl ⟨lineAt s.hand x.to,s.out,s.pc+1,s.looks,s.steps+1⟩
 else if x.op=8 then .inl ⟨s.hand,s.out,if s.hand.data.toList=x.tx.data.toList then x.to.toNat else s.pc+1,s.looks,s.steps+1⟩
 else if x.op=9 then .inl ⟨s.hand,s.out,x.to.toNat,s.looks,s.steps+1⟩
 else if x.op=10 then .inr (overT 0 (ofL s.out) (s.steps+1))
 else if x.op=11 then .inr (overT 1 s.hand (s.steps+1))
 else look x reps s
def step (T:List I3) (arg:ByteArray) (reps:List R2) (s:ST):ST ⊕ TN:=
 if T.length<=s.pc then .inr (brk s.pc s.steps) else if 200<=s.steps then .inr (overT 3 ⟨#[]⟩ s.steps) else act arg reps (T.getD s.pc i3z) s
def runF (T:List I3) (arg:ByteArray) (reps:List R2):Nat->ST->TN
 | 0,_=>zeroT
 | n+1,s=>match step T arg reps s with
  | .inl s'=>runF T arg reps n s'
  | .inr r=>r
def s0:ST:=⟨⟨#[]⟩,[],0,0,0⟩
def fin (T:List I3) (arg:ByteArray) (reps:List R2):TN:=runF T arg reps 202 s0
def On (T:List I3) (arg:ByteArray) (reps:List R2) (s:ST):Prop:=fin T arg reps=runF T arg reps (202 - s.steps) s
def okR (reps:List R2):Bool:=reps.all fun r=>vr r.code r.tx.data.toList
structure Fit (reps:List R2) (s:ST):Prop where
 hand:s.hand.size<=300
 out:s.out.length<=300
 pc:s.pc<=41
 looks:s.looks<=14
 most:s.looks<=reps.length
 steps:s.steps<=200
theorem on_start (T:List I3) (arg:ByteArray) (reps:List R2):On T arg reps s0:=rfl
theorem fit_start (reps:List R2):Fit reps s0:=⟨by simp [s0,ByteArray.size],by simp [s0],by simp [s0],by simp [s0],by simp [s0],by simp [s0]⟩
theorem on_inr {T:List I3} {arg:ByteArray} {reps:List R2} {s:ST} {r:TN} (h:On T arg reps s) (hs:s.steps<=200) (e:step T arg reps s=.inr r):fin T arg reps=r:=by
 unfold On at h;obtain ⟨m,hm⟩:∃ m,202 - s.steps=m+1:=⟨201 - s.steps,om_⟩;rw [h,hm,runF,e]
theorem act_steps {arg:ByteArray} {reps:List R2} {x:I3} {s s':ST} (e:act arg reps x s=.inl s'):s'.steps=s.steps+1:=by
 unfold act look at e;by_cases h1:x.op=1
 · rw [if_pos h1] at e
   injection e with e;subst e;rfl
 rw [if_neg h1] at e;by_cases h2:x.op=2
 · rw [if_pos h2] at e
   injection e with e;subst e;rfl
 rw [if_neg h2] at e;by_cases h5:x.op=5
 · rw [if_pos h5] at e
   by_cases hc:300<s.out.length+s.hand.size
   · rw [if_pos hc] at e
     injection e
   rw [if_neg hc] at e;injection e with e;subst e;rfl
 rw [if_neg h5] at e;by_cases h6:x.op=6
 · rw [if_pos h6] at e
   by_cases hc:300<s.hand.size+x.tx.size
   · rw [if_pos hc] at e
     injection e
   rw [if_neg hc] at e;injection e with e;subst e;rfl
 rw [if_neg h6] at e;by_cases h7:x.op=7
 · rw [if_pos h7] at e
   injection e with e;subst e;rfl
 rw [if_neg h7] at e;by_cases h8:x.op=8
 · rw [if_pos h8] at e
   injection e with e;subst e;rfl
 rw [if_neg h8] at e;by_cases h9:x.op=9
 · rw [if_pos h9] at e
   injection e with e;subst e;rfl
 rw [if_neg h9] at e;by_cases h10:x.op=10
 · rw [if_pos h10] at e
   injection e
 rw [if_neg h10] at e;by_cases h11:x.op=11
 · rw [if_pos h11] at e
   injection e
 rw [if_neg h11] at e;by_cases ga:nameOk s.hand.data.toList=false
 · rw [if_pos ga] at e
   injection e
 rw [if_neg ga] at e;by_cases gb:14<=s.looks
 · rw [if_pos gb] at e
   injection e
 rw [if_neg gb] at e;by_cases gc:reps.length<=s.looks
 · rw [if_pos gc] at e
   injection e
 rw [if_neg gc] at e;by_cases h4:x.op=4
 · rw [if_pos h4] at e
   injection e with e;subst e;rfl
 rw [if_neg h4] at e;by_cases gd:(reps.getD s.looks r2z).code=4
 · rw [if_pos gd] at e
   injection e
 rw [if_neg gd] at e;by_cases ge:(reps.getD s.looks r2z).code=0
 · rw [if_pos ge] at e
   injection e with e;subst e;rfl
 rw [if_neg ge] at e;injection e
theorem step_inl {T:List I3} {arg:ByteArray} {reps:List R2} {s s':ST} (e:step T arg reps s=.inl s'):s.steps<200/\s'.steps=s.steps+1:=by
 unfold step at e;split at e
 · injection e
 split at e
 · injection e
 exact ⟨om_,act_steps e⟩
theorem on_inl {T:List I3} {arg:ByteArray} {reps:List R2} {s s':ST} (h:On T arg reps s) (e:step T arg reps s=.inl s'):On T arg reps s':=by
 obtain ⟨h1,h2⟩:=step_inl e;unfold On at h ⊢;obtain ⟨m,hm⟩:∃ m,202 - s.steps=m+1:=⟨201 - s.steps,om_⟩;rw [h,hm,runF,e];simp only
 congr 1
 omega
theorem step_act {T:List I3} {arg:ByteArray} {reps:List R2} {s:ST} (h1:s.pc<T.length) (h2:s.steps<200):step T arg reps s=act arg reps (T.getD s.pc i3z) s:=by
 unfold step;rw [if_neg om_,if_neg om_]
theorem okR_at {reps:List R2} (h:okR reps=true) {k:Nat} (hk:k<reps.length):vr (reps.getD k r2z).code (reps.getD k r2z).tx.data.toList=true:=by
 have e:reps.getD k r2z=reps[k]:=by simp [hk]
 rw [e];unfold okR at h;rw [List.all_eq_true] at h;exact h _ (List.getElem_mem hk)
theorem vr_small {c:Int} {l:List UInt8} (h:vr c l=true):l.length<=300:=by
 rcases Nat.lt_or_ge 300 l.length with h' | h'
 · rw [vr_long h'] at h;cases h
 exact h'
theorem line_small (h:ByteArray) (n:Int):(lineAt h n).size<=h.size:=by
 unfold lineAt;split
 · rw [ofL_size]
   have:=cut_small 10 h.data.toList n.toNat;simpa using this
 exact Nat.zero_le _
theorem act_fit {arg:ByteArray} {reps:List R2} {x:I3} {s s':ST} (hx:okI x=true) (ha:arg.size<=300) (hr:okR reps=true) (h:Fit reps s) (hpc:s.pc<=40) (hst:s.steps<200) (e:act arg reps x s=.inl s'):Fit reps s':=by
 obtain ⟨f1,f2,f3,f4,f5,f6⟩:=h;obtain ⟨_,_,_,x4,x5,x6⟩:=okI_bad hx;have hl:=line_small s.hand x.to;unfold act look at e;by_cases h1:x.op=1
 · rw [if_pos h1] at e
   injection e with e;subst e;exact ⟨by show x.tx.size<=300;omega,f2,by show s.pc+1<=41;omega,f4,f5,by show s.steps+1<=200;omega⟩
 rw [if_neg h1] at e;by_cases h2:x.op=2
 · rw [if_pos h2] at e
   injection e with e;subst e;exact ⟨ha,f2,by show s.pc+1<=41;omega,f4,f5,by show s.steps+1<=200;omega⟩
 rw [if_neg h2] at e;by_cases h5:x.op=5
 · rw [if_pos h5] at e
   by_cases hc:300<s.out.length+s.hand.size
   · rw [if_pos hc] at e
     injection e
   rw [if_neg hc] at e;injection e with e;subst e;exact ⟨f1,by show (s.out++s.hand.data.toList).length<=300;rw [List.length_append];simp;omega,by show s.pc+1<=41;omega,f4,f5,by show s.steps+1<=200;omega⟩
 rw [if_neg h5] at e;by_cases h6:x.op=6
 · rw [if_pos h6] at e
   by_cases hc:300<s.hand.size+x.tx.size
   · rw [if_pos hc] at e
     injection e
   rw [if_neg hc] at e;injection e with e;subst e;exact ⟨by show (s.hand++x.tx).size<=300;rw [ByteArray.size_append];omega,f2,by show s.pc+1<=41;omega,f4,f5,by show s.steps+1<=200;omega⟩
 rw [if_neg h6] at e;by_cases h7:x.op=7
 · rw [if_pos h7] at e
   injection e with e;subst e;exact ⟨by show (lineAt s.hand x.to).size<=300;omega,f2,by show s.pc+1<=41;omega,f4,f5,by show s.steps+1<=200;omega⟩
 rw [if_neg h7] at e;by_cases h8:x.op=8
 · rw [if_pos h8] at e
   injection e with e;subst e;exact ⟨f1,f2,by show (if s.hand.data.toList=x.tx.data.toList then x.to.toNat else s.pc+1)<=41;split <;> omega,f4,f5,by show s.steps+1<=200;omega⟩
 rw [if_neg h8] at e;by_cases h9:x.op=9
 · rw [if_pos h9] at e
   injection e with e;subst e;exact ⟨f1,f2,by show x.to.toNat<=41;omega,f4,f5,by show s.steps+1<=200;omega⟩
 rw [if_neg h9] at e;by_cases h10:x.op=10
 · rw [if_pos h10] at e
   injection e
 rw [if_neg h10] at e;by_cases h11:x.op=11
 · rw [if_pos h11] at e
   injection e
 rw [if_neg h11] at e;by_cases ga:nameOk s.hand.data.toList=false
 · rw [if_pos ga] at e
   injection e
 rw [if_neg ga] at e;by_cases gb:14<=s.looks
 · rw [if_pos gb] at e
   injection e
 rw [if_neg gb] at e;by_cases gc:reps.length<=s.looks
 · rw [if_pos gc] at e
   injection e
 rw [if_neg gc] at e;by_cases h4:x.op=4
 · rw [if_pos h4] at e
   injection e with e;subst e;exact ⟨by show ByteArray.size (if _ then _ else _)<=300;split <;> decide,f2,by show s.pc+1<=41;omega,by show s.looks+1<=14;omega,by show s.looks+1<=reps.length;omega,by show s.steps+1<=200;omega⟩
 rw [if_neg h4] at e;by_cases gd:(reps.getD s.looks r2z).code=4
 · rw [if_pos gd] at e
   injection e
 rw [if_neg gd] at e;by_cases ge:(reps.getD s.looks r2z).code=0
 · rw [if_pos ge] at e
   injection e with e;subst e;exact ⟨by have h:=vr_small (okR_at hr (k:=s.looks) om_);show (reps.getD s.looks r2z).tx.size<=300;simpa using h,f2,by show s.pc+1<=41;omega,by show s.looks+1<=14;omega,by show s.looks+1<=reps.length;omega,by show s.steps+1<=200;omega⟩
 rw [if_neg ge] at e;injection e
def nextT (T:List I3) (arg:ByteArray) (reps:List R2):TN:=if okT T=true/\arg.size<=300/\reps.length<=14/\okR reps=true then fin T arg reps else zeroT
section
variable {arg:ByteArray} {reps:List R2} {tx:ByteArray} {to:Int} {s:ST}
theorem act_1:act arg reps ⟨1,tx,to⟩ s=.inl ⟨tx,s.out,s.pc+1,s.looks,s.steps+1⟩:=rfl
theorem act_2:act arg reps ⟨2,tx,to⟩ s=.inl ⟨arg,s.out,s.pc+1,s.looks,s.steps+1⟩:=rfl
theorem act_5y (h:300<s.out.length+s.hand.size):act arg reps ⟨5,tx,to⟩ s=.inr (brk s.pc (s.steps+1)):=if_pos h
theorem act_5n (h:¬ 300<s.out.length+s.hand.size):act arg reps ⟨5,tx,to⟩ s=.inl ⟨s.hand,s.out++s.hand.data.toList,s.pc+1,s.looks,s.steps+1⟩:=if_neg h
theorem act_6y (h:300<s.hand.size+tx.size):act arg reps ⟨6,tx,to⟩ s=.inr (brk s.pc (s.steps+1)):=if_pos h
theorem act_6n (h:¬ 300<s.hand.size+tx.size):act arg reps ⟨6,tx,to⟩ s=.inl ⟨s.hand++tx,s.out,s.pc+1,s.looks,s.steps+1⟩:=if_neg h
theorem act_7:act arg reps ⟨7,tx,to⟩ s=.inl ⟨lineAt s.hand to,s.out,s.pc+1,s.looks,s.steps+1⟩:=rfl
theorem act_8y (h:s.hand.data.toList=tx.data.toList):act arg reps ⟨8,tx,to⟩ s=.inl ⟨s.hand,s.out,to.toNat,s.looks,s.steps+1⟩:=by
 show Sum.inl (ST.mk s.hand s.out (if s.hand.data.toList=tx.data.toList then to.toNat else s.pc+1) s.looks (s.steps+1))=_;rw [if_pos h]
theorem act_8n (h:¬ s.hand.data.toList=tx.data.toList):act arg reps ⟨8,tx,to⟩ s=.inl ⟨s.hand,s.out,s.pc+1,s.looks,s.steps+1⟩:=by
 show Sum.inl (ST.mk s.hand s.out (if s.hand.data.toList=tx.data.toList then to.toNat else s.pc+1) s.looks (s.steps+1))=_;rw [if_neg h]
theorem act_9:act arg reps ⟨9,tx,to⟩ s=.inl ⟨s.hand,s.out,to.toNat,s.looks,s.steps+1⟩:=rfl
theorem act_10:act arg reps ⟨10,tx,to⟩ s=.inr (overT 0 (ofL s.out) (s.steps+1)):=rfl
theorem act_11:act arg reps ⟨11,tx,to⟩ s=.inr (overT 1 s.hand (s.steps+1)):=rfl
theorem act_3:act arg reps ⟨3,tx,to⟩ s=look ⟨3,tx,to⟩ reps s:=rfl
theorem act_4:act arg reps ⟨4,tx,to⟩ s=look ⟨4,tx,to⟩ reps s:=rfl
theorem look_noname {x:I3} (h:nameOk s.hand.data.toList=false):look x reps s=.inr (overT 4 ⟨#[63]⟩ (s.steps+1)):=if_pos h
theorem look_spent {x:I3} (h:nameOk s.hand.data.toList=true) (h2:14<=s.looks):look x reps s=.inr (overT 3 ⟨#[]⟩ (s.steps+1)):=by
 unfold look;rw [if_neg (by simp [h]),if_pos h2]
theorem look_stop {x:I3} (h:nameOk s.hand.data.toList=true) (h2:¬ 14<=s.looks) (h3:reps.length<=s.looks):look x reps s=.inr ⟨false,0,⟨#[]⟩,x.op==4,s.hand,s.steps+1⟩:=by
 unfold look;rw [if_neg (by simp [h]),if_neg h2,if_pos h3]
theorem look_go {x:I3} (h:nameOk s.hand.data.toList=true) (h2:¬ 14<=s.looks) (h3:¬ reps.length<=s.looks):look x reps s=if x.op=4 then .inl ⟨if (reps.getD s.looks r2z).code=4 then ⟨#[48]⟩ else ⟨#[49]⟩,s.out,s.pc+1,s.looks+1,s.steps+1⟩
 else if (reps.getD s.looks r2z).code=4 then .inr (overT 4 s.hand (s.steps+1))
 else if (reps.getD s.looks r2z).code=0 then .inl ⟨(reps.getD s.looks r2z).tx,s.out,s.pc+1,s.looks+1,s.steps+1⟩
 else .inr (overT 5 s.hand (s.steps+1)):=by
 unfold look;rw [if_neg (by simp [h]),if_neg h2,if_neg h3]
theorem look_4y (h:nameOk s.hand.data.toList=true) (h2:¬ 14<=s.looks) (h3:¬ reps.length<=s.looks) (h4:(reps.getD s.looks r2z).code=4):look ⟨4,tx,to⟩ reps s=.inl ⟨⟨#[48]⟩,s.out,s.pc+1,s.looks+1,s.steps+1⟩:=by
 rw [look_go h h2 h3,if_pos rfl,if_pos h4]
theorem look_4n (h:nameOk s.hand.data.toList=true) (h2:¬ 14<=s.looks) (h3:¬ reps.length<=s.looks) (h4:¬ (reps.getD s.looks r2z).code=4):look ⟨4,tx,to⟩ reps s=.inl ⟨⟨#[49]⟩,s.out,s.pc+1,s.looks+1,s.steps+1⟩:=by
 rw [look_go h h2 h3,if_pos rfl,if_neg h4]
theorem look_3m (h:nameOk s.hand.data.toList=true) (h2:¬ 14<=s.looks) (h3:¬ reps.length<=s.looks) (h4:(reps.getD s.looks r2z).code=4):look ⟨3,tx,to⟩ reps s=.inr (overT 4 s.hand (s.steps+1)):=by
 rw [look_go h h2 h3,if_neg sm_,if_pos h4]
theorem look_3d (h:nameOk s.hand.data.toList=true) (h2:¬ 14<=s.looks) (h3:¬ reps.length<=s.looks) (h4:¬ (reps.getD s.looks r2z).code=4) (h5:(reps.getD s.looks r2z).code=0):look ⟨3,tx,to⟩ reps s=.inl ⟨(reps.getD s.looks r2z).tx,s.out,s.pc+1,s.looks+1,s.steps+1⟩:=by
 rw [look_go h h2 h3,if_neg sm_,if_neg h4,if_pos h5]
theorem look_3b (h:nameOk s.hand.data.toList=true) (h2:¬ 14<=s.looks) (h3:¬ reps.length<=s.looks) (h4:¬ (reps.getD s.looks r2z).code=4) (h5:¬ (reps.getD s.looks r2z).code=0):look ⟨3,tx,to⟩ reps s=.inr (overT 5 s.hand (s.steps+1)):=by
 rw [look_go h h2 h3,if_neg sm_,if_neg h4,if_neg h5]
end
theorem go_on {T:List I3} {arg:ByteArray} {reps:List R2} {x:I3} {s s':ST} (hx:T.getD s.pc i3z=x) (hpc:s.pc<T.length) (hT:T.length<=40) (hst:s.steps<200) (hall:T.all okI=true) (ha:arg.size<=300) (hr:okR reps=true) (hf:Fit reps s) (ho:On T arg reps s) (e:act arg reps x s=.inl s'):Fit reps s'/\On T arg reps s':=by
 have hok:okI x=true:=by rw [<- hx];exact get_ok hall hpc
 exact ⟨act_fit hok ha hr hf om_ hst e,on_inl ho (by rw [step_act hpc hst,hx];exact e)⟩
theorem go_end {T:List I3} {arg:ByteArray} {reps:List R2} {x:I3} {s:ST} {r:TN} (hx:T.getD s.pc i3z=x) (hpc:s.pc<T.length) (hst:s.steps<200) (ho:On T arg reps s) (e:act arg reps x s=.inr r):fin T arg reps=r:=
 on_inr ho om_ (by rw [step_act hpc hst,hx];exact e)
theorem end_pc {T:List I3} {arg:ByteArray} {reps:List R2} {s:ST} (h:T.length<=s.pc) (hf:Fit reps s) (ho:On T arg reps s):fin T arg reps=brk s.pc s.steps:=
 on_inr ho hf.steps (by unfold step;rw [if_pos h])
theorem end_steps {T:List I3} {arg:ByteArray} {reps:List R2} {s:ST} (h:s.pc<T.length) (h2:s.steps=200) (ho:On T arg reps s):fin T arg reps=overT 3 ⟨#[]⟩ s.steps:=
 on_inr ho om_ (by unfold step;rw [if_neg om_,if_pos om_])
theorem ofL_cat (l:List UInt8) (s:ByteArray):ofL l++s=ofL (l++s.data.toList):=by
 apply ByteArray.ext;simp [ofL]
end Go.Proofs.YthjhakdpikdoeaaGreatDoor
