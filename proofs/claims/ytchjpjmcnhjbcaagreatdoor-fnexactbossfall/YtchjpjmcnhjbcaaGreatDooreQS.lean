import Derived.Test.YtchjpjmcnhjbcaaGreatDoorePS
import Derived.Laws.Externs
import Derived.Shelf.Strings.Split
import Derived.Shelf.Small.Strs
set_option linter.unusedVariables false
set_option maxHeartbeats 8000000
set_option maxRecDepth 100000
namespace Go.Proofs.YtchjpjmcnhjbcaaGreatDoor
open Proofs.Tryz Go.RowKit
variable {w:World} {b n:Nat} {o:Obj} {e:TypeId} {v:Value} {xs:List Value}
theorem NK:(prog.info? 340).map (fun i=>i.size)=some 2:=Y2
theorem info5:(prog.info? 5).map (fun i=>(i.zero,i.size,i.bytes))=some (some (.int .u8 0),1,1):=Y2
theorem dX:liesAt prog prog.depth 340 (2 / prog.cellsOf 340) 0 340 1=true:=Y2
theorem EI (b:Nat) (w:World) (h0:w.cell? ⟨b,0,none⟩=some (.pointer (some ⟨b,0,none⟩))):
 Calls prog 279 #[.pointer (some ⟨b,0,none⟩)] w fun e w'=>e=.returned (.tuple #[])/\w'=w:=by
 obtain ⟨j,a,_⟩:=dA.1 NK;have kn:=Lib.run_neq_ptr_same (P:=prog) w (aA b 0) underlying338 a;go_enter func279,ntmps279;go_wp2
 go_end0
 exact ⟨rfl,rfl⟩
theorem uH (b:Nat) (w:World) (h0:w.cell? ⟨b,0,none⟩=some (.pointer none)) (a:w.shape? b=some (340,2)) (hfz:w.frozen? ⟨b,0,none⟩=false):
 Calls prog 279 #[.pointer (some ⟨b,0,none⟩)] w fun e w'=>e=.returned (.tuple #[])/\w'=w.setCell ⟨b,0,none⟩ (.pointer (some ⟨b,0,none⟩)):=by
 obtain ⟨j,c,d⟩:=dA.1 NK;have k1:=Lib.run_to_unsafe (P:=prog) w (aA b 0) underlying338 underlying312 c (by rw [d];decide) a (Nat.zero_lt_succ 1);have k3:=Lib.run_from_unsafe (P:=prog) w (aA b 0) underlying312 underlying338 c a dX;have k2:∀ x,Sem.run prog (callFunc 295 #[x]) w=.ok (.value x) w:=fun x=>by
  rw [run_callFunc_extern func295 Y2 Y2 Y2 (e:=Extern.AbiNoEscape.same) Y2];rw [Lib.run_noEscape];rfl
 go_enter func279,ntmps279;go_wp2
 go_end0
 exact ⟨rfl,rfl⟩
theorem a3U (B b:Nat) (a:List Value) (w:World) (h:Lib.IsBuilder 340 5 B b a w):
 Calls prog 279 #[.pointer (some ⟨b,0,none⟩)] w fun e w'=>e=.returned (.tuple #[])/\Lib.BuilderAt 340 5 B b (.pointer (some ⟨b,0,none⟩)) a w'/\Below B w w'/\w'.heap.size=w.heap.size:=by
 rcases h with h | h
 · refine (uH b w h.cell0 h.shape h.frozen0).mono ?_;rintro e w' ⟨rfl,rfl⟩;exact ⟨rfl,h.used _,(Z4 B w).setCell (p:=(aA b 0)) h.1 _,X4⟩
 · refine (EI b w h.cell0).mono ?_;rintro e w' ⟨rfl,rfl⟩;exact ⟨rfl,h,Z4 B _,rfl⟩
theorem Jf (h:w.heap[b]?=some o):b<w.heap.size:=by
 rcases Q7 b w.heap.size with a | a
 · exact a
 · simp [Xp a] at h
theorem SN {B:Nat} (h:w.ownsRow B e 1 v n xs):∃ ao c,v=.slice ao n c:=by
 rcases h.2 with ⟨hv,h0⟩ | ⟨g,cap,cur,hv,_⟩
 · exact ⟨none,0,by rw [hv,h0]⟩
 · exact ⟨_,_,hv⟩
theorem JM {c a:World} (d:c.heap[b]?=some o) (f:v.ownBlock≠some b) (g:c.grownBy a v.ownBlock):a.heap[b]?=some o:=by
 rw [g.block b (Jf d) (fun e=>f e.symm)];exact d
theorem a1q (B b:Nat) (a:List Value) (c:Int) (w:World) (h:Lib.IsBuilder 340 5 B b a w) (hlen:a.length+1<=140737488355328) (hBw:B<=w.heap.size):
 Calls prog 250 #[.pointer (some ⟨b,0,none⟩),.int .u8 c] w fun e w'=>e=.returned .nilIface/\Lib.IsBuilder 340 5 B b (a++[.int .u8 c]) w'/\Below B w w':=by
 obtain ⟨r,A,x,t,s⟩:=info_parts info5;have F:=U0 h;clear h;go_enter func250,ntmps250
 go_wp2_with fail
 refine (a3U B b a w F.out).mono ?_;rintro e f ⟨rfl,h1,C,y⟩;obtain ⟨hB,v,i,n,o⟩:=h1;have D:B<=f.heap.size:=O0;have q:=U0 i;have E:=U0 o;have c1:f.cell? (aA b 1)=some v:=by rw [Lib.cell_of_heap i];rfl
 clear i o y
 go_wp2_with (at_builtin;refine wpList_append_own _ rfl _ _ 183 rfl B 5 r (.int .u8 0) 1 1 underlying183 A x t s rfl o6 _ _ _ rfl (n.alloc _) ⟨f.heap.size,0,none⟩ 1 1 [.int .u8 c] rfl rfl (cell_one_new _ _ _) (by intro u l;simp at l;subst l;rfl) (by unfold maxLen;omega) O0 U7 ?_;intro v' d m g _;have j:Hid (d.heap[b]?=some (.cells #[.pointer (some ⟨b,0,none⟩),v] 340 (0,0))):=JM (v:=v) (by rw [Below.heap_alloc f _ b (Jf q.out)];exact q.out) E.out g;have H:Hid (Below B w d):=(C.alloc D _).grown g U7 (fun k z=>(n.lt k z).1);obtain ⟨ao,cp,rfl⟩:=SN m;have d1:d.cell? ⟨b,1,none⟩=some v:=(by rw [Lib.cell_of_heap j.out];rfl);have f1:d.frozen? ⟨b,1,none⟩=false:=Lib.frozen_of_heap j.out 1;clear g)
 go_ret;refine ⟨rfl,.inr ?_,?_⟩
 · exact Lib.BuilderAt.put (T:=340) (e:=5) hB j.out (bs':=a++[.int .u8 c]) (by simpa using m) o6
 · exact H.out.setCell (p:=(aA b 1)) hB _
theorem ownsRow_below {w':World} {base:Nat} {size:Nat} (h:w.ownsRow base e size v n xs) (c:Bw w w'):w'.ownsRow base e size v n xs:=by
 obtain ⟨h1,h2⟩:=h;refine ⟨h1,?_⟩;rcases h2 with h | ⟨g,d,cur,hv,b,a,hr⟩
 · exact .inl h
 · exact .inr ⟨g,d,cur,hv,b,by rw [c.block g (Jf a)];exact a,hr⟩
theorem a1B (c:UInt8) (w:World):
 Calls prog 249 #[.int .u8 c.toNat] w fun e w'=>e=.returned (.bool (H_ c))/\w'=w:=by
 go_enter func249,ntmps249;go_wp2
 all_goals go_ret
 all_goals refine ⟨J9 ?_,rfl⟩
 all_goals unfold H_
 all_goals simp [*]
 all_goals first | omega | skip
 all_goals (try (simp only [bne]))
end Go.Proofs.YtchjpjmcnhjbcaaGreatDoor
namespace Go.Proofs
open Go.Shelf
def Tryz.kH:Go.Shelf.Ren:=⟨fun | 137=>280 | 217=>289 | 266=>318 | n => n, fun | 9=>9 | 5=>5 | 3=>3 | n => n, fun | n=>n⟩
theorem Tryz.lays137:Go.Proofs.Lays.n137 prog Tryz.kH:={
 mixed:=Y2
 f137:=func280.trans (U6 some Y2)
 f217:=func289.trans (U6 some Y2)
 f266:=func318.trans (U6 some Y2)
 t3:=underlying3
 a3:=Tryz.isAgg3
 z3:=Tryz.sizeOf3
 v3:=Tryz.zeroValue3
 t5:=underlying5
 a5:=Tryz.isAgg5
 z5:=Tryz.sizeOf5
 v5:=Tryz.zeroValue5
 t9:=underlying9
 a9:=Tryz.isAgg9
 z9:=Tryz.sizeOf9
 v9:=Tryz.zeroValue9 }
theorem Tryz.strings_IndexByte (s:BY) (c:Int) (w:World):
 Calls prog 280 #[.string s,.int .u8 c] w fun e w'=>e=.returned (.int .i64 (Lib.indexByte s.data.toList c.toNat.toUInt8))/\w'=w:=Any.strings_IndexByte Tryz.lays137 s c w
def Tryz.lays147_ren:Go.Shelf.Ren:=⟨fun | 147=>269 | 221=>246 | 268=>277 | 138=>225 | 143=>268 | 195=>266 | 197=>293 | 218=>267 | 219=>275 | 260=>320 | 217=>289 | 225=>290 | 224=>291 | 267=>292 | 266=>318 | 314=>319 | n => n, fun | 9=>9 | 3=>3 | 31=>22 | 4=>4 | 0=>0 | 105=>381 | 21=>21 | 5=>5 | 46=>257 | 119=>412 | 139=>415 | 138=>414 | 146=>326 | 51=>325 | n => n, fun | 1=>5 | 3=>9 | 4=>10 | n=>n⟩
theorem Tryz.lays147:Go.Proofs.Lays.n147 prog Tryz.lays147_ren:={
 mixed:=Y2
 f138:=func225.trans (U6 some Y2)
 f143:=func268.trans (U6 some Y2)
 f147:=func269.trans (U6 some Y2)
 f195:=func266.trans (U6 some Y2)
 f197:=func293.trans (U6 some Y2)
 f217:=func289.trans (U6 some Y2)
 f218:=func267.trans (U6 some Y2)
 f219:=func275.trans (U6 some Y2)
 f221:=func246.trans (U6 some Y2)
 f224:=func291.trans (U6 some Y2)
 f225:=func290.trans (U6 some Y2)
 f260:=func320.trans (U6 some Y2)
 f266:=func318.trans (U6 some Y2)
 f267:=func292.trans (U6 some Y2)
 f268:=func277.trans (U6 some Y2)
 f314:=func319.trans (U6 some Y2)
 t0:=underlying0
 a0:=Tryz.isAgg0
 z0:=Tryz.sizeOf0
 v0:=Tryz.zeroValue0
 t3:=underlying3
 a3:=Tryz.isAgg3
 z3:=Tryz.sizeOf3
 v3:=Tryz.zeroValue3
 t4:=underlying4
 a4:=Tryz.isAgg4
 z4:=Tryz.sizeOf4
 v4:=Tryz.zeroValue4
 t5:=underlying5
 a5:=Tryz.isAgg5
 z5:=Tryz.sizeOf5
 v5:=Tryz.zeroValue5
 t9:=underlying9
 a9:=Tryz.isAgg9
 z9:=Tryz.sizeOf9
 v9:=Tryz.zeroValue9
 t21:=underlying21
 a21:=Tryz.isAgg21
 z21:=Tryz.sizeOf21
 v21:=Tryz.zeroValue21
 t31:=underlying22
 a31:=Tryz.isAgg22
 z31:=Tryz.sizeOf22
 v31:=Tryz.zeroValue22
 t46:=underlying257
 a46:=Tryz.isAgg257
 z46:=Tryz.sizeOf257
 v46:=Tryz.zeroValue257
 t51:=underlying325
 a51:=Tryz.isAgg325
 z51:=Tryz.sizeOf325
 v51:=Tryz.zeroValue325
 t105:=underlying381
 a105:=Tryz.isAgg381
 z105:=Tryz.sizeOf381
 v105:=Tryz.zeroValue381
 t119:=underlying412
 a119:=Tryz.isAgg412
 z119:=Tryz.sizeOf412
 t138:=underlying414
 a138:=Tryz.isAgg414
 z138:=Tryz.sizeOf414
 v138:=Tryz.zeroValue414
 t139:=underlying415
 a139:=Tryz.isAgg415
 z139:=Tryz.sizeOf415
 v139:=Tryz.zeroValue415
 t146:=underlying326
 a146:=Tryz.isAgg326
 z146:=Tryz.sizeOf326
 v146:=Tryz.zeroValue326
 g1:=Y2
 g3:=Y2
 g4:=by kernel_rfl }
theorem Tryz.strings_SplitN (s a:BY) (n:Nat) (m:Int) (w:World) (b:s.size<4294967281) (hm:w.cell? ⟨5,0,none⟩=some (.int .i64 m)) (h1:1<=a.size) (d:1<=n) (c:n<=9223372036854775807):
 Calls prog 269 #[.string s,.string a,.int .i64 n] w fun e w'=>
  e=.returned (.slice (some ⟨w.heap.size,0,none⟩) (Lib.splitB a 0 (min n (s.size+1) - 1) s).length (min n (s.size+1)))/\w'=w.alloc (.cells (Lib.cellsOf (Lib.splitB a 0 (min n (s.size+1) - 1) s) (min n (s.size+1))) 9):=Any.strings_SplitN Tryz.lays147 Y2 s a n m w b hm h1 d c
