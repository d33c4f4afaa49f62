import Derived.Test.YthfmmimmfcnhmaaGreatDoorCM
import Derived.Test.YthfmmimmfcnhmaaGreatDoorShelfA
set_option maxHeartbeats 8000000
set_option maxRecDepth 100000
namespace Go.Proofs.YthfmmimmfcnhmaaGreatDoor
open Go.RowKit
structure I3 where
 op:Int
 tx:ByteArray
 to:Int
def i3z:I3:=⟨0,⟨#[]⟩,0⟩
def I3.v (x:I3):Value:=.agg #[.int .i64 x.op,.string x.tx,.int .i64 x.to]
def InsAt (w:World) (a:Option Addr) (is:List I3):Prop:=
 is=[]\/∃ b off,a=some ⟨b,off,none⟩/\b<w.heap.size/\∀ i,i<is.length->w.cell? ⟨b,off+i*3,none⟩=some (.int .i64 (is.getD i i3z).op)/\w.cell? ⟨b,off+i*3+1,none⟩=some (.string (is.getD i i3z).tx)/\w.cell? ⟨b,off+i*3+2,none⟩=some (.int .i64 (is.getD i i3z).to)
theorem ins_some {w:World} {a:Option Addr} {is:List I3} (h:InsAt w a is):∃ b off,(is=[]\/(a=some ⟨b,off,none⟩/\b<w.heap.size/\∀ i,i<is.length->w.cell? ⟨b,off+i*3,none⟩=some (.int .i64 (is.getD i i3z).op)/\w.cell? ⟨b,off+i*3+1,none⟩=some (.string (is.getD i i3z).tx)/\w.cell? ⟨b,off+i*3+2,none⟩=some (.int .i64 (is.getD i i3z).to))):=by
 rcases h with h | ⟨b,off,h⟩
 · exact ⟨0,0,.inl h⟩
 exact ⟨b,off,.inr h⟩
theorem ins_below {w w':World} {a:Option Addr} {is:List I3} (h:InsAt w a is) (hb:Below w.heap.size w w'):InsAt w' a is:=by
 rcases h with h | ⟨b,off,h1,h2,h3⟩
 · exact .inl h
 exact .inr ⟨b,off,h1,Nat.lt_of_lt_of_le h2 hb.size,fun i hi=>by rw [hb.cell (by exact h2),hb.cell (by exact h2),hb.cell (by exact h2)];exact h3 i hi⟩
theorem getD_small3 {is:List I3} {B:Nat} (h:∀ i,i<is.length->(is.getD i i3z).tx.size<=B) (i:Nat):(is.getD i i3z).tx.size<=B:=by
 rcases Nat.lt_or_ge i is.length with h' | h'
 · exact h i h'
 have e:is.getD i i3z=i3z:=by simp [List.getD,List.getElem?_eq_none h']
 rw [e];exact Nat.zero_le _
theorem info183:(Tryz.prog.info? 183).map (fun i=>(i.zero,i.size,i.bytes))=some (some (.agg #[.int .i64 0,.string ⟨#[]⟩,.int .i64 0]),3,32):=by kernel_rfl
end Go.Proofs.YthfmmimmfcnhmaaGreatDoor
namespace Go.Proofs.YthfmmimmfcnhmaaGreatDoor.M
open Go.RowKit
end Go.Proofs.YthfmmimmfcnhmaaGreatDoor.M
namespace Go.Proofs.YthfmmimmfcnhmaaGreatDoor
open Proofs.Tryz
open Go.RowKit
variable {w:World} {B b base n size:Nat} {o:Obj} {e:TypeId} {v:Value} {xs:List Value}
theorem info216:(prog.info? 216).map (fun i=>i.size)=some 2:=by kernel_rfl
theorem info5:(prog.info? 5).map (fun i=>(i.zero,i.size,i.bytes))=some (some (.int .u8 0),1,1):=by kernel_rfl
theorem lies216:liesAt prog prog.depth 216 (2 / prog.cellsOf 216) 0 216 1=true:=by kernel_rfl
theorem check_used (b:Nat) (w:World) (h0:w.cell? ⟨b,0,none⟩=some (.pointer (some ⟨b,0,none⟩))):
 Calls prog 182 #[.pointer (some ⟨b,0,none⟩)] w fun e w'=>e=.returned (.tuple #[])/\w'=w:=by
 obtain ⟨j,hj,_⟩:=Option.map_eq_some_iff.1 info216
 have kn:=Lib.run_neq_ptr_same (P:=prog) w ⟨b,0,none⟩ underlying214 hj
 go_enter func182,ntmps182
 go_wp2
 go_end0
 exact ⟨rfl,rfl⟩
theorem check_fresh (b:Nat) (w:World) (h0:w.cell? ⟨b,0,none⟩=some (.pointer none)) (hsh:w.shape? b=some (216,2)) (hfz:w.frozen? ⟨b,0,none⟩=false):
 Calls prog 182 #[.pointer (some ⟨b,0,none⟩)] w fun e w'=>e=.returned (.tuple #[])/\w'=w.setCell ⟨b,0,none⟩ (.pointer (some ⟨b,0,none⟩)):=by
 obtain ⟨j,hj,hjs⟩:=Option.map_eq_some_iff.1 info216
 have k1:=Lib.run_to_unsafe (P:=prog) w ⟨b,0,none⟩ underlying214 underlying201 hj (by rw [hjs];decide) hsh (Nat.zero_lt_succ 1)
 have k3:=Lib.run_from_unsafe (P:=prog) w ⟨b,0,none⟩ underlying201 underlying214 hj hsh lies216
 have k2:∀ x,Sem.run prog (callFunc 192 #[x]) w=.ok (.value x) w:=fun x=>by
  rw [run_callFunc_extern func192 (by kernel_rfl) (by kernel_rfl) (by kernel_rfl) (e:=Extern.AbiNoEscape.same) (by kernel_rfl)]
  rw [Lib.run_noEscape]
  rfl
 go_enter func182,ntmps182
 go_wp2
 go_end0
 exact ⟨rfl,rfl⟩
theorem c182 (B b:Nat) (bs:List Value) (w:World) (h:Lib.IsBuilder 216 5 B b bs w):
 Calls prog 182 #[.pointer (some ⟨b,0,none⟩)] w fun e w'=>e=.returned (.tuple #[])/\Lib.BuilderAt 216 5 B b (.pointer (some ⟨b,0,none⟩)) bs w'/\Below B w w'/\w'.heap.size=w.heap.size:=by
 rcases h with h | h
 · refine (check_fresh b w h.cell0 h.shape h.frozen0).mono ?_
   rintro e w' ⟨rfl,rfl⟩
   exact ⟨rfl,h.used _,(Below.refl B w).setCell (p:=⟨b,0,none⟩) h.1 _,by simp⟩
 refine (check_used b w h.cell0).mono ?_
 rintro e w' ⟨rfl,rfl⟩
 exact ⟨rfl,h,Below.refl B _,rfl⟩
theorem blk_lt (h:w.heap[b]?=some o):b<w.heap.size:=by
 rcases Nat.lt_or_ge b w.heap.size with h' | h'
 · exact h'
 simp [Array.getElem?_eq_none h'] at h
theorem row_form (h:w.ownsRow B e 1 v n xs):∃ ao c,v=.slice ao n c:=by
 rcases h.2 with ⟨hv,h0⟩ | ⟨g,cap,cur,hv,_⟩
 · exact ⟨none,0,by rw [hv,h0]⟩
 exact ⟨_,_,hv⟩
theorem app_keeps {w1 w2:World} (hbk:w1.heap[b]?=some o) (hne:v.ownBlock≠some b) (hg:w1.grownBy w2 v.ownBlock):w2.heap[b]?=some o:=by
 rw [hg.block b (blk_lt hbk) (fun e=>hne e.symm)];exact hbk
theorem c162 (B b:Nat) (bs:List Value) (c:Int) (w:World) (h:Lib.IsBuilder 216 5 B b bs w) (hlen:bs.length+1<=140737488355328) (hBw:B<=w.heap.size):
 Calls prog 162 #[.pointer (some ⟨b,0,none⟩),.int .u8 c] w fun e w'=>e=.returned .nilIface/\Lib.IsBuilder 216 5 B b (bs++[.int .u8 c]) w'/\Below B w w':=by
 obtain ⟨i0,hi,hz0,hz1,hz2⟩:=info_parts info5
 have HI:Hid (Lib.IsBuilder 216 5 B b bs w):=h
 clear h
 go_enter func162,ntmps162
 go_wp2_with fail
 refine (c182 B b bs w HI.out).mono ?_
 rintro e w1 ⟨rfl,h1,hb1,hs1⟩
 obtain ⟨hB,v,hbk,hown,hne⟩:=h1
 have hB1:B<=w1.heap.size:=by omega
 have HBK:Hid (w1.heap[b]?=some (.cells #[.pointer (some ⟨b,0,none⟩),v] 216 (0,0))):=hbk
 have HNE:Hid (v.ownBlock≠some b):=hne
 have c1:w1.cell? ⟨b,1,none⟩=some v:=by rw [Lib.cell_of_heap hbk];rfl
 clear hbk hne hs1
 go_wp2_with (at_builtin;refine wpList_append_own _ rfl _ _ 103 rfl B 5 i0 (.int .u8 0) 1 1 underlying103 hi hz0 hz1 hz2 rfl (by decide) _ _ _ rfl (hown.alloc _) ⟨w1.heap.size,0,none⟩ 1 1 [.int .u8 c] rfl rfl (cell_one_new _ _ _) (by intro u hu;simp at hu;subst hu;rfl) (by unfold maxLen;omega) (by omega) (by simp;omega) ?_;intro v' w2 hown' hgrow _;have HB2:Hid (w2.heap[b]?=some (.cells #[.pointer (some ⟨b,0,none⟩),v] 216 (0,0))):=app_keeps (v:=v) (by rw [Below.heap_alloc w1 _ b (blk_lt HBK.out)];exact HBK.out) HNE.out hgrow;have HG:Hid (Below B w w2):=(hb1.alloc hB1 _).grown hgrow (by simp;omega) (fun k hk=>(hown.lt k hk).1);obtain ⟨ao,cp,rfl⟩:=row_form hown';have d1:w2.cell? ⟨b,1,none⟩=some v:=(by rw [Lib.cell_of_heap HB2.out];rfl);have f1:w2.frozen? ⟨b,1,none⟩=false:=Lib.frozen_of_heap HB2.out 1;clear hgrow)
 go_ret
 refine ⟨rfl,.inr ?_,?_⟩
 · exact Lib.BuilderAt.put (T:=216) (e:=5) hB HB2.out (bs':=bs++[.int .u8 c]) (by simpa using hown') (by decide)
 exact HG.out.setCell (p:=⟨b,1,none⟩) hB _
theorem ownsRow_below {w':World} (h:w.ownsRow base e size v n xs) (hb:Below w.heap.size w w'):w'.ownsRow base e size v n xs:=by
 obtain ⟨h1,h2⟩:=h
 refine ⟨h1,?_⟩
 rcases h2 with h | ⟨g,cap,cur,hv,hg,hh,hr⟩
 · exact .inl h
 exact .inr ⟨g,cap,cur,hv,hg,by rw [hb.block g (blk_lt hh)];exact hh,hr⟩
def plainB (c:UInt8):Bool:=decide (32<=(c.toNat:Int))&&decide ((c.toNat:Int)<=126)&&!((c.toNat:Int)==34)&&!((c.toNat:Int)==92)
theorem ret_str {a b:ByteArray} (h:a=b):Ending.returned (.string a)=.returned (.string b):=by rw [h]
theorem c161 (c:UInt8) (w:World):
 Calls prog 161 #[.int .u8 c.toNat] w fun e w'=>e=.returned (.bool (plainB c))/\w'=w:=by
 go_enter func161,ntmps161
 go_wp2
 all_goals go_ret
 all_goals refine ⟨ret_bool ?_,rfl⟩
 all_goals unfold plainB
 all_goals simp [*]
 all_goals first | omega | skip
 all_goals (try (simp only [bne]))
def hexL:List UInt8:=[48,49,50,51,52,53,54,55,56,57,97,98,99,100,101,102]
def hexA:ByteArray:=⟨#[48,49,50,51,52,53,54,55,56,57,97,98,99,100,101,102]⟩
theorem hex_get (n:Nat) (h:n<hexA.size):hexA[n]=hexL.getD n 0:=by
 have h':n<16:=h
 obtain rfl | rfl | rfl | rfl | rfl | rfl | rfl | rfl | rfl | rfl | rfl | rfl | rfl | rfl | rfl | rfl:n=0\/n=1\/n=2\/n=3\/n=4\/n=5\/n=6\/n=7\/n=8\/n=9\/n=10\/n=11\/n=12\/n=13\/n=14\/n=15:=by omega
 all_goals rfl
def qb (c:UInt8):List UInt8:=if plainB c=true then [c] else [92,hexL.getD (c.toNat / 16) 0,hexL.getD (c.toNat % 16) 0]
def quoteL (l:List UInt8):List UInt8:=34::(l.flatMap qb++[34])
theorem qb_len (c:UInt8):(qb c).length<=3:=by unfold qb;split <;> simp
theorem flat_len (l:List UInt8):(l.flatMap qb).length<=3*l.length:=by
 induction l with
 | nil=>simp
 | cons c l ih=>have:=qb_len c;simp only [List.flatMap_cons,List.length_append,List.length_cons];omega
theorem quote_len (l:List UInt8):(quoteL l).length<=3*l.length+2:=by
 have:=flat_len l;unfold quoteL;simp only [List.length_cons,List.length_append,List.length_nil];omega
theorem cells_snoc (l r:List UInt8):Lib.byteCells (l++r)=Lib.byteCells l++Lib.byteCells r:=by simp [Lib.byteCells]
theorem cells_len (l:List UInt8):(Lib.byteCells l).length=l.length:=by simp [Lib.byteCells]
end Go.Proofs.YthfmmimmfcnhmaaGreatDoor
