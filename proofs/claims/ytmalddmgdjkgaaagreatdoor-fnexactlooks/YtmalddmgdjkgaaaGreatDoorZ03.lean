import Derived.Test.YtmalddmgdjkgaaaGreatDoorZ02
import Derived.Test.YtmalddmgdjkgaaaGreatDoorShelfA
import Derived.Laws.Externs
import Derived.Laws.BitsAllLaws
namespace Go.Proofs.YtmalddmgdjkgaaaGreatDoor
open Go.RowKit
theorem info177:(Tryz.prog.info? 177).map (fun i=>i.size)=some 2:=by kernel_rfl
theorem info5:(Tryz.prog.info? 5).map (fun i=>(i.zero,i.size,i.bytes))=some (some (.int .u8 0),1,1):=by kernel_rfl
theorem lies177:liesAt Tryz.prog Tryz.prog.depth 177 (2 / Tryz.prog.cellsOf 177) 0 177 1=true:=by kernel_rfl
set_option maxHeartbeats 1000000 in
set_option maxRecDepth 100000 in
theorem check_used (b:Nat) (w:World) (h0:w.cell? ⟨b,0,none⟩=some (.pointer (some ⟨b,0,none⟩))):
 Calls Tryz.prog 146 #[.pointer (some ⟨b,0,none⟩)] w fun e w'=>e=.returned (.tuple #[])∧w'=w:=by
 obtain ⟨j,hj,_⟩:=Option.map_eq_some_iff.1 info177
 have kn:=Lib.run_neq_ptr_same (P:=Tryz.prog) w ⟨b,0,none⟩ Tryz.underlying175 hj
 go_enter Tryz.func146,Tryz.ntmps146
 go_wp2
 go_end0
 exact ⟨rfl,rfl⟩
set_option maxHeartbeats 1000000 in
theorem check_fresh (b:Nat) (w:World) (h0:w.cell? ⟨b,0,none⟩=some (.pointer none)) (hsh:w.shape? b=some (177,2)) (hfz:w.frozen? ⟨b,0,none⟩=false):
 Calls Tryz.prog 146 #[.pointer (some ⟨b,0,none⟩)] w fun e w'=>e=.returned (.tuple #[])∧w'=w.setCell ⟨b,0,none⟩ (.pointer (some ⟨b,0,none⟩)):=by
 obtain ⟨j,hj,hjs⟩:=Option.map_eq_some_iff.1 info177
 have k1:=Lib.run_to_unsafe (P:=Tryz.prog) w ⟨b,0,none⟩ Tryz.underlying175 Tryz.underlying162 hj (by rw [hjs];decide) hsh (Nat.zero_lt_succ 1)
 have k3:=Lib.run_from_unsafe (P:=Tryz.prog) w ⟨b,0,none⟩ Tryz.underlying162 Tryz.underlying175 hj hsh lies177
 have k2:∀ x,Sem.run Tryz.prog (callFunc 156 #[x]) w=.ok (.value x) w:=fun x=>by
  rw [run_callFunc_extern Tryz.func156 (by kernel_rfl) (by kernel_rfl) (by kernel_rfl) (e:=Extern.AbiNoEscape.same) (by kernel_rfl)]
  rw [Lib.run_noEscape]
  rfl
 go_enter Tryz.func146,Tryz.ntmps146
 go_wp2
 go_end0
 exact ⟨rfl,rfl⟩
theorem c146 (B b:Nat) (bs:List Value) (w:World) (h:Lib.IsBuilder 177 5 B b bs w):
 Calls Tryz.prog 146 #[.pointer (some ⟨b,0,none⟩)] w fun e w'=>e=.returned (.tuple #[])∧Lib.BuilderAt 177 5 B b (.pointer (some ⟨b,0,none⟩)) bs w'∧Below B w w'∧w'.heap.size=w.heap.size:=by
 rcases h with h | h
 · refine (check_fresh b w h.cell0 h.shape h.frozen0).mono ?_
   rintro e w' ⟨rfl,rfl⟩
   exact ⟨rfl,h.used _,(Below.refl B w).setCell (p:=⟨b,0,none⟩) h.1 _,by simp⟩
 refine (check_used b w h.cell0).mono ?_
 rintro e w' ⟨rfl,rfl⟩
 exact ⟨rfl,h,Below.refl B _,rfl⟩
theorem blk_lt {w:World} {b:Nat} {o:Obj} (h:w.heap[b]?=some o):b<w.heap.size:=by
 rcases Nat.lt_or_ge b w.heap.size with h' | h'
 · exact h'
 simp [Array.getElem?_eq_none h'] at h
theorem row_form {w:World} {B:Nat} {e:TypeId} {v:Value} {n:Nat} {xs:List Value} (h:w.ownsRow B e 1 v n xs):∃ ao c,v=.slice ao n c:=by
 rcases h.2 with ⟨hv,h0⟩ | ⟨g,cap,cur,hv,_⟩
 · exact ⟨none,0,by rw [hv,h0]⟩
 exact ⟨_,_,hv⟩
theorem app_keeps {w1 w2:World} {b:Nat} {o:Obj} {v:Value} (hbk:w1.heap[b]?=some o) (hne:v.ownBlock≠some b) (hg:w1.grownBy w2 v.ownBlock):w2.heap[b]?=some o:=by
 rw [hg.block b (blk_lt hbk) (fun e=>hne e.symm)];exact hbk
set_option maxHeartbeats 1000000 in
set_option maxRecDepth 100000 in
theorem c126 (B b:Nat) (bs:List Value) (c:Int) (w:World) (h:Lib.IsBuilder 177 5 B b bs w) (hlen:bs.length+1≤140737488355328) (hBw:B≤w.heap.size):
 Calls Tryz.prog 126 #[.pointer (some ⟨b,0,none⟩),.int .u8 c] w fun e w'=>e=.returned .nilIface∧Lib.IsBuilder 177 5 B b (bs++[.int .u8 c]) w'∧Below B w w':=by
 obtain ⟨i0,hi,hz0,hz1,hz2⟩:=info_parts info5
 have HI:Hid (Lib.IsBuilder 177 5 B b bs w):=h
 clear h
 go_enter Tryz.func126,Tryz.ntmps126
 go_wp2_with fail
 refine (c146 B b bs w HI.out).mono ?_
 rintro e w1 ⟨rfl,h1,hb1,hs1⟩
 obtain ⟨hB,v,hbk,hown,hne⟩:=h1
 have hB1:B≤w1.heap.size:=by omega
 have HBK:Hid (w1.heap[b]?=some (.cells #[.pointer (some ⟨b,0,none⟩),v] 177 (0,0))):=hbk
 have HNE:Hid (v.ownBlock≠some b):=hne
 have c1:w1.cell? ⟨b,1,none⟩=some v:=by rw [Lib.cell_of_heap hbk];rfl
 clear hbk hne hs1
 go_wp2_with (at_builtin;refine wpList_append_own _ rfl _ _ 88 rfl B 5 i0 (.int .u8 0) 1 1 Tryz.underlying88 hi hz0 hz1 hz2 rfl (by decide) _ _ _ rfl (hown.alloc _) ⟨w1.heap.size,0,none⟩ 1 1 [.int .u8 c] rfl rfl (cell_one_new _ _ _) (by intro u hu;simp at hu;subst hu;rfl) (by unfold maxLen;omega) (by omega) (by simp;omega) ?_;intro v' w2 hown' hgrow _;have HB2:Hid (w2.heap[b]?=some (.cells #[.pointer (some ⟨b,0,none⟩),v] 177 (0,0))):=app_keeps (v:=v) (by rw [Below.heap_alloc w1 _ b (blk_lt HBK.out)];exact HBK.out) HNE.out hgrow;have HG:Hid (Below B w w2):=(hb1.alloc hB1 _).grown hgrow (by simp;omega) (fun k hk=>(hown.lt k hk).1);obtain ⟨ao,cp,rfl⟩:=row_form hown';have d1:w2.cell? ⟨b,1,none⟩=some v:=(by rw [Lib.cell_of_heap HB2.out];rfl);have f1:w2.frozen? ⟨b,1,none⟩=false:=Lib.frozen_of_heap HB2.out 1;clear hgrow)
 go_ret
 refine ⟨rfl,.inr ?_,?_⟩
 · exact Lib.BuilderAt.put (T:=177) (e:=5) hB HB2.out (bs':=bs++[.int .u8 c]) (by simpa using hown') (by decide)
 exact HG.out.setCell (p:=⟨b,1,none⟩) hB _
theorem ownsRow_below {w w':World} {base:Nat} {e:TypeId} {size:Nat} {v:Value} {n:Nat} {xs:List Value} (h:w.ownsRow base e size v n xs) (hb:Below w.heap.size w w'):w'.ownsRow base e size v n xs:=by
 obtain ⟨h1,h2⟩:=h
 refine ⟨h1,?_⟩
 rcases h2 with h | ⟨g,cap,cur,hv,hg,hh,hr⟩
 · exact .inl h
 exact .inr ⟨g,cap,cur,hv,hg,by rw [hb.block g (blk_lt hh)];exact hh,hr⟩
end Go.Proofs.YtmalddmgdjkgaaaGreatDoor
namespace Go.Proofs.YtmalddmgdjkgaaaGreatDoor
open Go.RowKit
def plainB (c:UInt8):Bool:=decide (32≤(c.toNat:Int))&&decide ((c.toNat:Int)≤126)&&!((c.toNat:Int)==34)&&!((c.toNat:Int)==92)
theorem ret_bool {a b:Bool} (h:a=b):Ending.returned (.bool a)=.returned (.bool b):=by rw [h]
theorem ret_str {a b:ByteArray} (h:a=b):Ending.returned (.string a)=.returned (.string b):=by rw [h]
set_option maxHeartbeats 400000 in
theorem c125 (c:UInt8) (w:World):
 Calls Tryz.prog 125 #[.int .u8 c.toNat] w fun e w'=>e=.returned (.bool (plainB c))∧w'=w:=by
 go_enter Tryz.func125,Tryz.ntmps125
 go_wp2
 all_goals go_ret
 all_goals refine ⟨ret_bool ?_,rfl⟩
 all_goals unfold plainB
 all_goals simp [*]
 all_goals first | omega | skip
 all_goals (try (simp only [bne]))
def hexL:List UInt8:=[48,49,50,51,52,53,54,55,56,57,97,98,99,100,101,102]
def hexA:ByteArray:=⟨#[48,49,50,51,52,53,54,55,56,57,97,98,99,100,101,102]⟩
theorem hex_get (n:Nat) (h:n<hexA.size):hexA[n]=hexL.getD n 0:=by
 have h':n<16:=h
 obtain rfl | rfl | rfl | rfl | rfl | rfl | rfl | rfl | rfl | rfl | rfl | rfl | rfl | rfl | rfl | rfl:n=0∨n=1∨n=2∨n=3∨n=4∨n=5∨n=6∨n=7∨n=8∨n=9∨n=10∨n=11∨n=12∨n=13∨n=14∨n=15:=by omega
 all_goals rfl
def qb (c:UInt8):List UInt8:=if plainB c=true then [c] else [92,hexL.getD (c.toNat / 16) 0,hexL.getD (c.toNat % 16) 0]
def quoteL (l:List UInt8):List UInt8:=34::(l.flatMap qb++[34])
theorem qb_len (c:UInt8):(qb c).length≤3:=by unfold qb;split <;> simp
theorem flat_len (l:List UInt8):(l.flatMap qb).length≤3*l.length:=by
 induction l with
 | nil=>simp
 | cons c l ih=>have:=qb_len c;simp only [List.flatMap_cons,List.length_append,List.length_cons];omega
theorem quote_len (l:List UInt8):(quoteL l).length≤3*l.length+2:=by
 have:=flat_len l;unfold quoteL;simp only [List.length_cons,List.length_append,List.length_nil];omega
theorem take_snoc (s:ByteArray) (k:Nat) (h:k<s.size):s.data.toList.take (k+1)=s.data.toList.take k++[s[k]]:=by
 rw [List.take_succ_eq_append_getElem (by simpa using h)];rfl
theorem cells_snoc (l r:List UInt8):Lib.byteCells (l++r)=Lib.byteCells l++Lib.byteCells r:=by simp [Lib.byteCells]
theorem cells_len (l:List UInt8):(Lib.byteCells l).length=l.length:=by simp [Lib.byteCells]
end Go.Proofs.YtmalddmgdjkgaaaGreatDoor
