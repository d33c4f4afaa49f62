import Derived.Test.YthfmmimmfcnhmaaGreatDoorRG
import Derived.Test.YthfmmimmfcnhmaaGreatDoorZ17
set_option maxHeartbeats 8000000
set_option maxRecDepth 100000
namespace Go.Proofs.YthfmmimmfcnhmaaGreatDoor
open Proofs.Tryz
open Go.RowKit
variable {w w':World} {N b g k:Nat} {ss:List (List UInt8)}
theorem c128n (l:List UInt8) (w:World) (hs:l.length<=1048700) (hm:MaxAt w):
 Calls prog 128 #[.string (ofL l),.string ⟨#[10]⟩] w fun e w'=>e=.returned (.tuple #[.string (ofL (Lib.cut l [10]).1),.string (ofL (Lib.cut l [10]).2.1),.bool (Lib.cut l [10]).2.2])/\Below w.heap.size w w':=by
 obtain ⟨_,m,hm⟩:=hm
 refine (Tryz.strings_Cut (ofL l) ⟨#[10]⟩ m w (by rw [ofL_size];omega) hm).mono ?_
 rintro e w' ⟨rfl,n,rfl⟩
 exact ⟨rfl,below_drewN n⟩
theorem c140' (l:List UInt8) (w:World) (hs:l.length<=300) (hsh:ShapesAt w) (hmx:MaxAt w):
 Calls prog 140 #[.string (ofL l)] w fun e w'=>Is41 l e/\Below w.heap.size w w':=c140 (ofL l) w (by rw [ofL_size];exact hs) hsh hmx
def Is13 (w:World) (l:List UInt8) (e:Ending) (w':World):Prop:=∃ (is:List I3) (ok:Bool) (v:Value),e=.returned (.tuple #[.agg #[v],.bool ok])/\w'.ownsRow w.heap.size 183 3 v is.length (insCells is)/\IsRead l is ok
theorem alloc2_block {o:Obj} (h:w.heap[k]?=some o) (a b:Obj):((w.alloc a).alloc b).heap[k]?=some o:=by
 have hk:=blk_lt h
 rw [Below.heap_alloc _ _ _ (by simp;omega),Below.heap_alloc _ _ _ hk];exact h
theorem alloc_new (hg:g=w.heap.size) (o:Obj):(w.alloc o).heap[g]?=some o:=by
 subst hg;exact Array.getElem?_push_size
theorem c106 (s:ByteArray) (w:World) (hs:s.size<=1048576) (hsh:ShapesAt w) (hmx:MaxAt w):
 Calls prog 106 #[.string s] w fun e w'=>Is13 w s.data.toList e w'/\Below w.heap.size w w':=by
 have HSH:Hid (ShapesAt w):=hsh
 have HMX:Hid (MaxAt w):=hmx
 clear hsh hmx
 have hlen:s.data.toList.length=s.size:=by simp
 obtain ⟨i0,hi,hz0,hz1,hz2⟩:=info_parts info183
 by_cases h300:300<s.size
 · have HR:Hid (IsRead s.data.toList [] false):=read_long (by omega)
   go_enter func106,ntmps106
   go_wp2
   refine bodyPost_ret (v:=.tuple #[.agg #[.slice none 0 0],.bool false]) (by simp [results,Tryz.results106,go_sem]) rfl ⟨⟨[],false,_,rfl,World.ownsRow_nil _ _ _ _,HR.out⟩,(Below.refl _ _).alloc (Nat.le_refl _) _⟩
 have hBR:Below w.heap.size w (w.alloc (.cells #[.slice none 0 0] 150)):=(Below.refl _ _).alloc (Nat.le_refl _) _
 have HS:Hid (s=ofL s.data.toList):=(ofL_self s).symm
 go_enter func106,ntmps106
 go_wp2_with fail
 go_loopw [5] (fun r wr=>∃ (l:List UInt8) (is:List I3) (v:Value),r=.string (ofL l)/\Hid (Way s.data.toList is l)/\Hid (wr.heap[w.heap.size+1]?=some (.cells #[v] 150 (0,0)))/\wr.ownsRow (w.heap.size+2) 183 3 v is.length (insCells is)/\Below (w.heap.size+1) (w.alloc (.cells #[.slice none 0 0] 150)) wr/\w.heap.size+2<=wr.heap.size) (fun r _=>strOf r)
 case atStart=>
  refine ⟨s.data.toList,[],.slice none 0 0,by rw [<- HS.out],way_start _,alloc_new (by simp) _,World.ownsRow_nil _ _ _ _,(Below.refl _ _).alloc (by simp) _,by simp⟩
 obtain ⟨l,is,v,rfl,hway,hT,hown,hbx,hzr⟩:=hrel
 have hb:Below w.heap.size w wr:=hBR.trans (hbx.mono (by omega))
 have hRr:wr.cell? ⟨w.heap.size,0,none⟩=some (.slice none 0 0):=(hbx.cell (p:=⟨w.heap.size,0,none⟩) (by simp)).trans (by simp [go_sem])
 have hRf:wr.frozen? ⟨w.heap.size,0,none⟩=false:=(hbx.frozen (p:=⟨w.heap.size,0,none⟩) (by simp)).trans (by simp [go_sem])
 have hTc:wr.cell? ⟨w.heap.size+1,0,none⟩=some v:=by rw [Lib.cell_of_heap hT.out];rfl
 have hTf:wr.frozen? ⟨w.heap.size+1,0,none⟩=false:=Lib.frozen_of_heap hT.out 0
 obtain ⟨hwl,hwt⟩:=way_len hway.out
 by_cases hl:l=[]
 · subst hl
   have hnl:(ofL []).toList=[]:=by rw [ByteArray.toList_eq];rfl
   obtain ⟨W1,W2⟩:=way_end hway.out (by omega)
   have HW1:Hid (okT is=true->IsRead s.data.toList is true):=W1
   have HW2:Hid (okT is=false->IsRead s.data.toList [] false):=W2
   clear W1 W2
   obtain ⟨ao,cp,hv,hat⟩:=own3_form hown
   subst hv
   have HAT:Hid (InsAt wr ao is):=hat
   clear hat hway
   go_wp2_with fail
   refine (c137 ao cp is wr (fun i=>Nat.le_trans (hwt i) (by omega)) (by omega) HAT.out (shapes_below HSH.out hb)).mono ?_
   rintro e w5 ⟨rfl,hb5⟩
   have hB5:Below w.heap.size w w5:=hb.trans (hb5.mono hb.size)
   have hRr5:w5.cell? ⟨w.heap.size,0,none⟩=some (.slice none 0 0):=(hb5.cell (p:=⟨w.heap.size,0,none⟩) (by simp;omega)).trans hRr
   have hRf5:w5.frozen? ⟨w.heap.size,0,none⟩=false:=(hb5.frozen (p:=⟨w.heap.size,0,none⟩) (by simp;omega)).trans hRf
   have hTc5:w5.cell? ⟨w.heap.size+1,0,none⟩=some (.slice ao is.length cp):=(hb5.cell (p:=⟨w.heap.size+1,0,none⟩) (by simp;omega)).trans hTc
   have hown5:w5.ownsRow (w.heap.size+2) 183 3 (.slice ao is.length cp) is.length (insCells is):=ownsRow_below hown hb5
   clear hRr hRf hTc hTf hb5 hown
   cases hok:okT is
   · have HR:Hid (IsRead s.data.toList [] false):=HW2.out hok
     clear hok HW1 HW2
     go_wp2
     refine bodyPost_ret (v:=.tuple #[.agg #[.slice none 0 0],.bool false]) (by simp [results,Tryz.results106,go_sem,World.cell?_setCell_same _ _ _ hRr5]) rfl ⟨⟨[],false,_,rfl,World.ownsRow_nil _ _ _ _,HR.out⟩,hB5.setCell (by simp) _⟩
   have HR:Hid (IsRead s.data.toList is true):=HW1.out hok
   clear hok HW1 HW2
   go_wp2
   refine bodyPost_ret (v:=.tuple #[.agg #[.slice ao is.length cp],.bool true]) (by simp [results,Tryz.results106,go_sem,World.cell?_setCell_same _ _ _ hRr5]) rfl ⟨⟨is,true,_,rfl,owns_mono (ownsRow_setCell_below hown5 (by show w.heap.size<w.heap.size+2;omega) _) (by omega),HR.out⟩,hB5.setCell (by simp) _⟩
 have e0:(ofL l).toList.isEmpty=false:=by
  rw [ByteArray.toList_eq]
  cases l with
  | nil=>exact absurd rfl hl
  | cons a r=>rfl
 have e1:¬ (ofL l).toList=[]:=fun h=>by rw [h] at e0;cases e0
 go_wp2_with fail
 refine (c128n l _ (by omega) (max_below HMX.out hb)).mono ?_
 rintro e w1 ⟨rfl,hb1⟩
 have hB1:Below w.heap.size w w1:=hb.trans (hb1.mono hb.size)
 have hc:=cut_10 l
 have hcl:(Lib.cut l [10]).1.length<=300:=by
  rcases hc with ⟨_,h,_⟩ | ⟨_,h,_⟩
  · have:=congrArg List.length h
    rw [List.length_append] at this;omega
  rw [h];omega
 have HC:Hid (((Lib.cut l [10]).2.2=true/\l=(Lib.cut l [10]).1++10::(Lib.cut l [10]).2.1/\(10:UInt8)∉(Lib.cut l [10]).1)\/((Lib.cut l [10]).2.2=false/\(Lib.cut l [10]).1=l/\(10:UInt8)∉l)):=hc
 clear hc
 generalize (Lib.cut l [10]).1=ca at*
 generalize (Lib.cut l [10]).2.1=cb at*
 generalize (Lib.cut l [10]).2.2=cf at*
 go_wp2_with fail
 refine (c140' ca _ hcl (shapes_below HSH.out hB1) (max_below HMX.out hB1)).mono ?_
 rintro e w2 ⟨⟨x,ok,rfl,hbody⟩,hb2⟩
 have hB2:Below w.heap.size w w2:=hB1.trans (hb2.mono hB1.size)
 have hbr2:Below wr.heap.size wr w2:=hb1.trans (hb2.mono hb1.size)
 have hRr2:w2.cell? ⟨w.heap.size,0,none⟩=some (.slice none 0 0):=(hbr2.cell (p:=⟨w.heap.size,0,none⟩) (by simp;omega)).trans hRr
 have hRf2:w2.frozen? ⟨w.heap.size,0,none⟩=false:=(hbr2.frozen (p:=⟨w.heap.size,0,none⟩) (by simp;omega)).trans hRf
 have hz2':wr.heap.size<=w2.heap.size:=hbr2.size
 have hRr3:=past (by show w.heap.size<w2.heap.size;omega) hRr2
 have hRf3:=pastf (by show w.heap.size<w2.heap.size;omega) hRf2
 have hT2:w2.heap[w.heap.size+1]?=some (.cells #[v] 150 (0,0)):=(hbr2.block _ (by omega)).trans hT.out
 have hTc2:w2.cell? ⟨w.heap.size+1,0,none⟩=some v:=by rw [Lib.cell_of_heap hT2];rfl
 have hTf2:w2.frozen? ⟨w.heap.size+1,0,none⟩=false:=Lib.frozen_of_heap hT2 0
 have HT2:Hid (w2.heap[w.heap.size+1]?=some (.cells #[v] 150 (0,0))):=hT2
 have hTc3:=past (by show w.heap.size+1<w2.heap.size;omega) hTc2
 have hTf3:=pastf (by show w.heap.size+1<w2.heap.size;omega) hTf2
 have hown2:w2.ownsRow (w.heap.size+2) 183 3 v is.length (insCells is):=ownsRow_below hown hbr2
 have hbx2:Below (w.heap.size+1) (w.alloc (.cells #[.slice none 0 0] 150)) w2:=hbx.trans (hbr2.mono (by omega))
 clear hT2 hRr hRf hTc hTf hb1 hb2 hbr2 hbx hown hT hRr2 hRf2 hTc2 hTf2
 have FAIL:Hid ((cf=false\/ok=false)->IsRead s.data.toList [] false):=by
  intro hf
  refine way_stuck hway.out hl (fun y q hy e=>?_)
  rcases HC.out with ⟨h1,h2,h3⟩ | ⟨h1,h2,h3⟩
  · rcases hf with hf | hf
    · rw [hf] at h1;cases h1
    have:=(split10 h3 (body_no10 y) (h2.symm.trans e)).1
    exact hbody.2 hf y hy this
  apply h3;rw [e];simp
 have GO:Hid (cf=true->ok=true->Way s.data.toList (is++[x]) cb/\cb.length<l.length):=by
  intro h1 h2
  rcases HC.out with ⟨_,hll,h3⟩ | ⟨h1',_,_⟩
  · refine ⟨way_step (a:=ca) (by rw [<- hll];exact hway.out) (hbody.1 h2),?_⟩
    rw [hll];simp;omega
  rw [h1] at h1';cases h1'
 clear HC hbody hway
 by_cases hgo:cf=true/\ok=true
 · obtain ⟨rfl,rfl⟩:=hgo
   obtain ⟨hw1,hw2⟩:=GO.out rfl rfl
   have HW:Hid (Way s.data.toList (is++[x]) cb):=hw1
   clear FAIL GO hw1
   have hne:v.ownBlock≠some (w.heap.size+1):=fun e=>by have:=(hown2.lt _ e).1;omega
   have HNE:Hid (v.ownBlock≠some (w.heap.size+1)):=hne
   clear hne
   go_wp2_with (at_builtin;refine wpList_append_own _ rfl _ _ 148 rfl (w.heap.size+2) 183 i0 (.agg #[.int .i64 0,.string ⟨#[]⟩,.int .i64 0]) 3 32 underlying148 hi hz0 hz1 hz2 rfl (by decide) _ _ _ rfl ((hown2.alloc _).alloc _) ⟨w2.heap.size+1,0,none⟩ 1 1 [_,_,_] rfl rfl (row3g (by simp) _ _ _ _) (by intro u hu;simp at hu;rcases hu with rfl | rfl | rfl <;> rfl) (by unfold maxLen;omega) (by omega) (by simp;omega) ?_;intro v' w3 hown3 hgrow _;have HB3:Hid (w3.heap[w.heap.size+1]?=some (.cells #[v] 150 (0,0))):=app_keeps (v:=v) (alloc2_block HT2.out _ _) HNE.out hgrow;have HG:Hid (Below (w.heap.size+1) (w.alloc (.cells #[.slice none 0 0] 150)) w3):=((hbx2.alloc (by omega) _).alloc (by simp;omega) _).grown hgrow (by simp;omega) (fun k hk=>by have:=(hown2.lt k hk).1;omega);have hz3:w2.heap.size+2<=w3.heap.size:=(by have:=hgrow.size;simp at this;omega);obtain ⟨ao,cp,rfl⟩:=row_form3 hown3;have d1:w3.cell? ⟨w.heap.size+1,0,none⟩=some v:=(by rw [Lib.cell_of_heap HB3.out];rfl);have f1:w3.frozen? ⟨w.heap.size+1,0,none⟩=false:=Lib.frozen_of_heap HB3.out 0;clear hgrow)
   go_roundw
   case rel=>
    refine ⟨cb,is++[x],.slice ao (is.length+1) cp,rfl,HW,?_,?_,HG.out.setCell (by simp) _,by simp;omega⟩
    · exact heap_setCell_same w3 (w.heap.size+1) 0 _ _ _ HB3.out
    rw [insCells_snoc,List.length_append]
    exact ownsRow_setCell_below hown3 (by show w.heap.size+1<w.heap.size+2;omega) _
   case measure=>simp [strOf,ofL_size];exact hw2
 have HR:Hid (IsRead s.data.toList [] false):=FAIL.out (by cases cf <;> cases ok <;> simp_all)
 clear FAIL GO
 have hend:∀ o,Below w.heap.size w ((w2.alloc o).setCell ⟨w.heap.size,0,none⟩ (.slice none 0 0)):=fun o=>(hB2.alloc hB2.size _).setCell (by simp) _
 cases cf <;> cases ok
 · go_wp2
   refine bodyPost_ret (v:=.tuple #[.agg #[.slice none 0 0],.bool false]) (by simp [results,Tryz.results106,go_sem,World.cell?_setCell_same _ _ _ (hRr3 _)]) rfl ⟨⟨[],false,_,rfl,World.ownsRow_nil _ _ _ _,HR.out⟩,hend _⟩
 · go_wp2
   refine bodyPost_ret (v:=.tuple #[.agg #[.slice none 0 0],.bool false]) (by simp [results,Tryz.results106,go_sem,World.cell?_setCell_same _ _ _ (hRr3 _)]) rfl ⟨⟨[],false,_,rfl,World.ownsRow_nil _ _ _ _,HR.out⟩,hend _⟩
 · go_wp2
   refine bodyPost_ret (v:=.tuple #[.agg #[.slice none 0 0],.bool false]) (by simp [results,Tryz.results106,go_sem,World.cell?_setCell_same _ _ _ (hRr3 _)]) rfl ⟨⟨[],false,_,rfl,World.ownsRow_nil _ _ _ _,HR.out⟩,hend _⟩
 exact absurd ⟨rfl,rfl⟩ hgo
theorem c80' (l:List UInt8) (w:World) (hs:l.length<=1048700):
 Calls prog 80 #[.string (ofL l),.int .i64 1] w fun e w'=>(∃ g cp,e=.returned (.tuple #[.slice (some ⟨g,0,none⟩) 1 cp,.string (ofL (restOf l))])/\w.heap.size<=g/\LinesAt w' g [wordOf l])/\Below w.heap.size w w':=c80 (ofL l) w (by rw [ofL_size];exact hs)
theorem c120' (l:List UInt8) (w:World) (hs:l.length<=1048700):
 Calls prog 120 #[.string (ofL l)] w fun e w'=>e=.returned (.int .i64 (n29 l))/\Below w.heap.size w w':=c120 (ofL l) w (by rw [ofL_size];exact hs)
theorem c81' (l:List UInt8) (w:World) (hs:l.length<=1048700):
 Calls prog 81 #[.string (ofL l)] w fun e w'=>(∃ t,e=.returned (.string (ofL t))/\t.length<=l.length+1/\∀ q,l=quoteL q->t=q)/\Below w.heap.size w w':=by
 have:=c81 (ofL l) w (by rw [ofL_size];exact hs)
 rw [ofL_size] at this
 exact this
theorem rest_small (l:List UInt8):(wordOf l).length<=l.length/\(restOf l).length<=l.length:=by
 refine ⟨(List.takeWhile_sublist _).length_le,?_⟩
 unfold restOf
 rw [List.length_drop]
 have:(l.dropWhile (· !=32)).length<=l.length:=(List.dropWhile_sublist _).length_le
 omega
theorem small_snoc {is:List I3} {x:I3} (h:∀ j,(is.getD j i3z).tx.size<=N) (hx:x.tx.size<=N) (j:Nat):((is++[x]).getD j i3z).tx.size<=N:=by
 rcases Nat.lt_trichotomy j is.length with hj | hj | hj
 · have:(is++[x]).getD j i3z=is.getD j i3z:=by simp [List.getD,List.getElem?_append_left hj]
   rw [this];exact h j
 · subst hj
   have:(is++[x]).getD is.length i3z=x:=by simp [List.getD]
   rw [this];exact hx
 have:(is++[x]).getD j i3z=i3z:=by simp [List.getD,List.getElem?_eq_none (show (is++[x]).length<=j by simp;omega)]
 rw [this];exact Nat.zero_le _
theorem lines_but (h:LinesAt w g ss) (hb:But b w w') (hne:g≠b):LinesAt w' g ss:=
 ⟨Nat.lt_of_lt_of_le h.1 hb.size,fun i hi=>by rw [hb.cell (by exact h.1) (by exact hne)];exact h.2 i hi⟩
theorem lines_grown {row:Option Nat} (h:LinesAt w g ss) (hb:w.grownBy w' row) (hne:some g≠row):LinesAt w' g ss:=
 ⟨Nat.lt_of_lt_of_le h.1 hb.size,fun i hi=>by
  have:=h.2 i hi
  unfold World.cell? at this ⊢
  rw [hb.block g h.1 hne];exact this⟩
end Go.Proofs.YthfmmimmfcnhmaaGreatDoor
