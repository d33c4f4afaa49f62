import Derived.Test.YtdpoaadafcaffaaGreatDoorZ00
import Derived.Test.YtdpoaadafcaffaaGreatDoorShelfA
set_option maxHeartbeats 8000000
set_option maxRecDepth 100000
namespace Go.Proofs.YtdpoaadafcaffaaGreatDoor
open Go.RowKit
structure I3 where
 op:Int
 tx:ByteArray
 to:Int
def K9:I3:=⟨0,⟨#[]⟩,0⟩
def I3.v (x:I3):Value:=.agg #[.int .i64 x.op,.string x.tx,.int .i64 x.to]
def t_ (w:World) (a:Option Addr) (is:List I3):Prop:=
 is=[]\/∃ b off,a=some ⟨b,off,none⟩/\b<w.heap.size/\∀ i,i<is.length->w.cell? ⟨b,off+i*3,none⟩=some (.int .i64 (is.getD i K9).op)/\w.cell? ⟨b,off+i*3+1,none⟩=some (.string (is.getD i K9).tx)/\w.cell? ⟨b,off+i*3+2,none⟩=some (.int .i64 (is.getD i K9).to)
theorem Ji {w:World} {a:Option Addr} {is:List I3} (h:t_ w a is):∃ b off,(is=[]\/(a=some ⟨b,off,none⟩/\b<w.heap.size/\∀ i,i<is.length->w.cell? ⟨b,off+i*3,none⟩=some (.int .i64 (is.getD i K9).op)/\w.cell? ⟨b,off+i*3+1,none⟩=some (.string (is.getD i K9).tx)/\w.cell? ⟨b,off+i*3+2,none⟩=some (.int .i64 (is.getD i K9).to))):=by
 rcases h with h | ⟨b,off,h⟩
 · exact ⟨0,0,.inl h⟩
 exact ⟨b,off,.inr h⟩
theorem O_ {w w':World} {a:Option Addr} {is:List I3} (h:t_ w a is) (hb:Below w.heap.size w w'):t_ w' a is:=by
 rcases h with h | ⟨b,off,h1,h2,h3⟩
 · exact .inl h
 exact .inr ⟨b,off,h1,Nat.lt_of_lt_of_le h2 hb.size,fun i hi=>by rw [hb.cell (by exact h2),hb.cell (by exact h2),hb.cell (by exact h2)];exact h3 i hi⟩
theorem Uj {is:List I3} {B:Nat} (h:∀ i,i<is.length->(is.getD i K9).tx.size<=B) (i:Nat):(is.getD i K9).tx.size<=B:=by
 rcases Nat.lt_or_ge i is.length with h' | h'
 · exact h i h'
 have e:is.getD i K9=K9:=by simp [List.getD,List.getElem?_eq_none h']
 rw [e];exact Nat.zero_le _
theorem Jk:(Tryz.prog.info? 121).map (fun i=>(i.zero,i.size,i.bytes))=some (some (.agg #[.int .i64 0,.string ⟨#[]⟩,.int .i64 0]),3,32):=I1
end Go.Proofs.YtdpoaadafcaffaaGreatDoor
namespace Go.Proofs.YtdpoaadafcaffaaGreatDoor.M
open Go.RowKit
end Go.Proofs.YtdpoaadafcaffaaGreatDoor.M
namespace Go.Proofs.YtdpoaadafcaffaaGreatDoor
open Proofs.Tryz
open Go.RowKit
variable {w:World} {B b base n size:Nat} {o:Obj} {e:TypeId} {v:Value} {xs:List Value}
theorem Pp:(prog.info? 157).map (fun i=>i.size)=some 2:=I1
theorem info5:(prog.info? 5).map (fun i=>(i.zero,i.size,i.bytes))=some (some (.int .u8 0),1,1):=I1
theorem LC:liesAt prog prog.depth 157 (2 / prog.cellsOf 157) 0 157 1=true:=I1
theorem Ul (b:Nat) (w:World) (h0:w.cell? ⟨b,0,none⟩=some (.pointer (some ⟨b,0,none⟩))):
 Calls prog 192 #[.pointer (some ⟨b,0,none⟩)] w fun e w'=>e=.returned (.tuple #[])/\w'=w:=by
 obtain ⟨j,hj,_⟩:=Option.map_eq_some_iff.1 Pp;have kn:=Lib.run_neq_ptr_same (P:=prog) w ⟨b,0,none⟩ underlying155 hj;go_enter func192,ntmps192;go_wp2
 go_end0
 exact ⟨rfl,rfl⟩
theorem Ct (b:Nat) (w:World) (h0:w.cell? ⟨b,0,none⟩=some (.pointer none)) (hsh:w.shape? b=some (157,2)) (hfz:w.frozen? ⟨b,0,none⟩=false):
 Calls prog 192 #[.pointer (some ⟨b,0,none⟩)] w fun e w'=>e=.returned (.tuple #[])/\w'=w.setCell ⟨b,0,none⟩ (.pointer (some ⟨b,0,none⟩)):=by
 obtain ⟨j,hj,hjs⟩:=Option.map_eq_some_iff.1 Pp;have k1:=Lib.run_to_unsafe (P:=prog) w ⟨b,0,none⟩ underlying155 underlying223 hj (by rw [hjs];decide) hsh (Nat.zero_lt_succ 1);have k3:=Lib.run_from_unsafe (P:=prog) w ⟨b,0,none⟩ underlying223 underlying155 hj hsh LC;have k2:∀ x,Sem.run prog (callFunc 199 #[x]) w=.ok (.value x) w:=fun x=>by
  rw [run_callFunc_extern func199 I1 I1 I1 (e:=Extern.AbiNoEscape.same) I1];rw [Lib.run_noEscape];rfl
 go_enter func192,ntmps192;go_wp2
 go_end0
 exact ⟨rfl,rfl⟩
theorem uJ (B b:Nat) (bs:List Value) (w:World) (h:Lib.IsBuilder 157 5 B b bs w):
 Calls prog 192 #[.pointer (some ⟨b,0,none⟩)] w fun e w'=>e=.returned (.tuple #[])/\Lib.BuilderAt 157 5 B b (.pointer (some ⟨b,0,none⟩)) bs w'/\Below B w w'/\w'.heap.size=w.heap.size:=by
 rcases h with h | h
 · refine (Ct b w h.cell0 h.shape h.frozen0).mono ?_
   rintro e w' ⟨rfl,rfl⟩;exact ⟨rfl,h.used _,(Below.refl B w).setCell (p:=⟨b,0,none⟩) h.1 _,U0⟩
 refine (Ul b w h.cell0).mono ?_;rintro e w' ⟨rfl,rfl⟩;exact ⟨rfl,h,Below.refl B _,rfl⟩
theorem F4 (h:w.heap[b]?=some o):b<w.heap.size:=by
 rcases Nat.lt_or_ge b w.heap.size with h' | h'
 · exact h'
 simp [Array.getElem?_eq_none h'] at h
theorem Al (h:w.ownsRow B e 1 v n xs):∃ ao c,v=.slice ao n c:=by
 rcases h.2 with ⟨hv,h0⟩ | ⟨g,cap,cur,hv,_⟩
 · exact ⟨none,0,by rw [hv,h0]⟩
 exact ⟨_,_,hv⟩
theorem Eb {w1 w2:World} (hbk:w1.heap[b]?=some o) (hne:v.ownBlock≠some b) (hg:w1.grownBy w2 v.ownBlock):w2.heap[b]?=some o:=by
 rw [hg.block b (F4 hbk) (fun e=>hne e.symm)];exact hbk
theorem dI (B b:Nat) (bs:List Value) (c:Int) (w:World) (h:Lib.IsBuilder 157 5 B b bs w) (hlen:bs.length+1<=140737488355328) (hBw:B<=w.heap.size):
 Calls prog 172 #[.pointer (some ⟨b,0,none⟩),.int .u8 c] w fun e w'=>e=.returned .nilIface/\Lib.IsBuilder 157 5 B b (bs++[.int .u8 c]) w'/\Below B w w':=by
 obtain ⟨i0,hi,hz0,hz1,hz2⟩:=info_parts info5;have HI:=Q0 h;clear h;go_enter func172,ntmps172
 go_wp2_with fail
 refine (uJ B b bs w HI.out).mono ?_;rintro e w1 ⟨rfl,h1,hb1,hs1⟩;obtain ⟨hB,v,hbk,hown,hne⟩:=h1;have hB1:B<=w1.heap.size:=O0;have iZ:=Q0 hbk;have xW:=Q0 hne;have c1:w1.cell? ⟨b,1,none⟩=some v:=by rw [Lib.cell_of_heap hbk];rfl
 clear hbk hne hs1
 go_wp2_with (at_builtin;refine wpList_append_own _ rfl _ _ 22 rfl B 5 i0 (.int .u8 0) 1 1 underlying22 hi hz0 hz1 hz2 rfl J3 _ _ _ rfl (hown.alloc _) ⟨w1.heap.size,0,none⟩ 1 1 [.int .u8 c] rfl rfl (cell_one_new _ _ _) (by intro u hu;simp at hu;subst hu;rfl) (by unfold maxLen;omega) O0 X3 ?_;intro v' w2 hown' hgrow _;have HB2:Hid (w2.heap[b]?=some (.cells #[.pointer (some ⟨b,0,none⟩),v] 157 (0,0))):=Eb (v:=v) (by rw [Below.heap_alloc w1 _ b (F4 iZ.out)];exact iZ.out) xW.out hgrow;have HG:Hid (Below B w w2):=(hb1.alloc hB1 _).grown hgrow X3 (fun k hk=>(hown.lt k hk).1);obtain ⟨ao,cp,rfl⟩:=Al hown';have d1:w2.cell? ⟨b,1,none⟩=some v:=(by rw [Lib.cell_of_heap HB2.out];rfl);have f1:w2.frozen? ⟨b,1,none⟩=false:=Lib.frozen_of_heap HB2.out 1;clear hgrow)
 go_ret;refine ⟨rfl,.inr ?_,?_⟩
 · exact Lib.BuilderAt.put (T:=157) (e:=5) hB HB2.out (bs':=bs++[.int .u8 c]) (by simpa using hown') J3
 exact HG.out.setCell (p:=⟨b,1,none⟩) hB _
theorem ownsRow_below {w':World} (h:w.ownsRow base e size v n xs) (hb:Below w.heap.size w w'):w'.ownsRow base e size v n xs:=by
 obtain ⟨h1,h2⟩:=h;refine ⟨h1,?_⟩;rcases h2 with h | ⟨g,cap,cur,hv,hg,hh,hr⟩
 · exact .inl h
 exact .inr ⟨g,cap,cur,hv,hg,by rw [hb.block g (F4 hh)];exact hh,hr⟩
def A8 (c:UInt8):Bool:=decide (32<=(c.toNat:Int))&&decide ((c.toNat:Int)<=126)&&!((c.toNat:Int)==34)&&!((c.toNat:Int)==92)
theorem Sb {a b:ByteArray} (h:a=b):Ending.returned (.string a)=.returned (.string b):=by rw [h]
theorem c171 (c:UInt8) (w:World):
 Calls prog 171 #[.int .u8 c.toNat] w fun e w'=>e=.returned (.bool (A8 c))/\w'=w:=by
 go_enter func171,ntmps171;go_wp2
 all_goals go_ret
 all_goals refine ⟨U4 ?_,rfl⟩
 all_goals unfold A8
 all_goals simp [*]
 all_goals first | omega | skip
 all_goals (try (simp only [bne]))
def H_:List UInt8:=[48,49,50,51,52,53,54,55,56,57,97,98,99,100,101,102]
def Dk:ByteArray:=⟨#[48,49,50,51,52,53,54,55,56,57,97,98,99,100,101,102]⟩
theorem Kv (n:Nat) (h:n<Dk.size):Dk[n]=H_.getD n 0:=by
 have h':n<16:=h;obtain rfl | rfl | rfl | rfl | rfl | rfl | rfl | rfl | rfl | rfl | rfl | rfl | rfl | rfl | rfl | rfl:n=0\/n=1\/n=2\/n=3\/n=4\/n=5\/n=6\/n=7\/n=8\/n=9\/n=10\/n=11\/n=12\/n=13\/n=14\/n=15:=O0
 all_goals rfl
def qb (c:UInt8):List UInt8:=if A8 c=true then [c] else [92,H_.getD (c.toNat / 16) 0,H_.getD (c.toNat % 16) 0]
def J4 (l:List UInt8):List UInt8:=34::(l.flatMap qb++[34])
theorem lG (c:UInt8):(qb c).length<=3:=by unfold qb;split <;> simp
theorem ut (l:List UInt8):(l.flatMap qb).length<=3*l.length:=by
 induction l with
 | nil=>simp
 | cons c l ih=>have:=lG c;simp only [List.flatMap_cons,List.length_append,List.length_cons];omega
theorem Dj (l:List UInt8):(J4 l).length<=3*l.length+2:=by
 have:=ut l;unfold J4;simp only [List.length_cons,List.length_append,List.length_nil];omega
theorem J9 (l r:List UInt8):Lib.byteCells (l++r)=Lib.byteCells l++Lib.byteCells r:=by simp [Lib.byteCells]
theorem Zi (l:List UInt8):(Lib.byteCells l).length=l.length:=by simp [Lib.byteCells]
end Go.Proofs.YtdpoaadafcaffaaGreatDoor
namespace Go.Proofs.YtdpoaadafcaffaaGreatDoor.M
open Go.RowKit
end Go.Proofs.YtdpoaadafcaffaaGreatDoor.M
namespace Go.Proofs.YtdpoaadafcaffaaGreatDoor.G
open Go.RowKit
variable {w:World} {a:Option Addr} {is:List M3}
def Ab (w:World) (a:Option Addr) (is:List M3):Prop:=
 is=[]\/∃ b off,a=some ⟨b,off,none⟩/\b<w.heap.size/\∀ i,i<is.length->w.cell? ⟨b,off+i*3,none⟩=some (.string (is.getD i X6).nm)/\w.cell? ⟨b,off+i*3+1,none⟩=some (.string (is.getD i X6).tl)/\w.cell? ⟨b,off+i*3+2,none⟩=some (.string (is.getD i X6).ar)
theorem qd (h:Ab w a is):∃ b off,(is=[]\/(a=some ⟨b,off,none⟩/\b<w.heap.size/\∀ i,i<is.length->w.cell? ⟨b,off+i*3,none⟩=some (.string (is.getD i X6).nm)/\w.cell? ⟨b,off+i*3+1,none⟩=some (.string (is.getD i X6).tl)/\w.cell? ⟨b,off+i*3+2,none⟩=some (.string (is.getD i X6).ar))):=by
 rcases h with h | ⟨b,off,h⟩
 · exact ⟨0,0,.inl h⟩
 exact ⟨b,off,.inr h⟩
theorem Ob {w':World} (h:Ab w a is) (hb:Below w.heap.size w w'):Ab w' a is:=by
 rcases h with h | ⟨b,off,h1,h2,h3⟩
 · exact .inl h
 exact .inr ⟨b,off,h1,Nat.lt_of_lt_of_le h2 hb.size,fun i hi=>by rw [hb.cell (by exact h2),hb.cell (by exact h2),hb.cell (by exact h2)];exact h3 i hi⟩
theorem Vj {B:Nat} (h:∀ i,i<is.length->(is.getD i X6).le B) (i:Nat):(is.getD i X6).le B:=by
 rcases Nat.lt_or_ge i is.length with h' | h'
 · exact h i h'
 have e:is.getD i X6=X6:=by simp [List.getD,List.getElem?_eq_none h']
 rw [e];exact ⟨Nat.zero_le _,Nat.zero_le _,Nat.zero_le _⟩
theorem JA:(Tryz.prog.info? 35).map (fun i=>(i.zero,i.size,i.bytes))=some (some (.agg #[.string ⟨#[]⟩,.string ⟨#[]⟩,.string ⟨#[]⟩]),3,48):=I1
end Go.Proofs.YtdpoaadafcaffaaGreatDoor.G
namespace Go.Proofs.YtdpoaadafcaffaaGreatDoor.G
open Go.RowKit
end Go.Proofs.YtdpoaadafcaffaaGreatDoor.G
namespace Go.Proofs.YtdpoaadafcaffaaGreatDoor
open Proofs.Tryz
open Go.RowKit
theorem Tc (n:Nat) (h:n<10):Lib.decDigits n=[UInt8.ofNat (48+n)]:=by rw [Lib.decDigits,dif_pos h]
theorem Kk (n:Nat) (h:¬ n<10):Lib.decDigits n=Lib.decDigits (n / 10)++[UInt8.ofNat (48+n % 10)]:=by rw [Lib.decDigits,dif_neg h]
theorem Di (l:List UInt8) (x:Int):K3 l++strOfNums [x]=K3 (l++[UInt8.ofNat x.toNat]):=by
 apply ByteArray.ext;simp [K3,strOfNums]
theorem uw (n:Nat) (w:World) (h:n<10):
 Calls prog 33 #[.int .i64 n] w fun e w'=>e=.returned (.string (K3 (Lib.decDigits n)))/\Below w.heap.size w w':=by
 have hcv:=Hr;have HD:Hid (Lib.decDigits n=[UInt8.ofNat (48+(n:Int)).toNat]):=by
  rw [show (48+(n:Int)).toNat=48+n by omega];exact Tc n h
 go_enter func33,ntmps33;go_wp2;go_ret;exact ⟨by rw [HD.out];rfl,bA⟩
theorem Dm (n:Nat) (h1:n<100):IntKind.i64.wrap ((n:Int).tdiv 10)=((n / 10:Nat):Int):=by
 rw [Int.tdiv_eq_ediv_of_nonneg O0];simp [IntKind.wrap,IntKind.signed,IntKind.bits];omega
theorem LB (n:Int) (h:0<=n):IntKind.u8.wrap (IntKind.i64.wrap (48+n.tmod 10))=48+n % 10:=by
 rw [Int.tmod_eq_emod_of_nonneg h];simp [IntKind.wrap,IntKind.signed,IntKind.bits];omega
theorem TD (m:Nat) (n:Int) (w:World) (hm:Hid (n=(m:Int))) (h10:10<=n) (h:n<100):
 Calls prog 33 #[.int .i64 n] w fun e w'=>e=.returned (.string (K3 (Lib.decDigits m)))/\Below w.heap.size w w':=by
 have hcv:=Hr;have hcd:=fA;have hz:∀ y,(strOfNums [y]).size=1:=fun y=>strOfNums_size [y];have hm':=hm.out;have hq:(K3 (Lib.decDigits (m / 10))).size=1:=by rw [Y2,Tc (m / 10) O0];rfl
 have H:Hid (∀ w,Calls prog 33 #[.int .i64 (IntKind.i64.wrap (n.tdiv 10))] w fun e w'=>e=.returned (.string (K3 (Lib.decDigits (m / 10))))/\Below w.heap.size w w'):=by
  rw [hm',Dm m O0];exact fun w=>uw (m / 10) w O0
 have HD:Hid (Ending.returned (.string (K3 (Lib.decDigits (m / 10))++strOfNums [48+n % 10]))=.returned (.string (K3 (Lib.decDigits m)))):=by
  rw [Kk m O0,Di];rw [show (48+n % 10).toNat=48+m % 10 by omega];rfl
 have HE:Hid (Ending.returned (.string (K3 (Lib.decDigits (m / 10))++strOfNums [IntKind.u8.wrap (IntKind.i64.wrap (48+n.tmod 10))]))=.returned (.string (K3 (Lib.decDigits m)))):=by
  rw [LB n O0];exact HD.out
 clear hm';go_enter func33,ntmps33
 go_wp2_with fail
 go_region_with (go_at_call 33;refine (H.out _).mono ?_;rintro e w1 ⟨rfl,hb1⟩;(try (have hcb:=Oz hb1)))
 all_goals go_wp2
 all_goals go_ret
 all_goals refine ⟨?_,?_⟩
 all_goals first
  | exact HD.out
  | exact HE.out
  | exact (((Below.refl w.heap.size w).drew).trans hb1).alloc hb1.size _
  | exact (((Below.refl w.heap.size w).alloc Q8 _).drew).trans (hb1.mono U0)
theorem Np (n:Nat) (w:World) (h:n<100):
 Calls prog 33 #[.int .i64 n] w fun e w'=>e=.returned (.string (K3 (Lib.decDigits n)))/\Below w.heap.size w w':=by
 by_cases h10:n<10
 · exact uw n w h10
 exact TD n n w rfl O0 O0
end Go.Proofs.YtdpoaadafcaffaaGreatDoor
namespace Go.Proofs.YtdpoaadafcaffaaGreatDoor.G
open Proofs.Tryz
open Go.RowKit
end Go.Proofs.YtdpoaadafcaffaaGreatDoor.G
