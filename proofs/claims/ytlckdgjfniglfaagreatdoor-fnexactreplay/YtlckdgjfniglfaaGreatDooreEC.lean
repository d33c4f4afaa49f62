import Derived.Test.YtlckdgjfniglfaaGreatDooreEA
set_option linter.unusedVariables false
set_option maxHeartbeats 8000000
set_option maxRecDepth 100000
namespace Go.Proofs.YtlckdgjfniglfaaGreatDoor
open Proofs.Tryz
open Go.RowKit
def Sm26 (ep:Int) (fn ft kn kt ka:ByteArray) (cd:Int) (tx:ByteArray) (ep2:Int) (fn2 ft2 kn2 kt2 ka2:ByteArray) (cd2:Int) (tx2:ByteArray) (la lb:Nat):Prop:=ep=ep2/\fn=fn2/\ft=ft2/\kn=kn2/\kt=kt2/\ka=ka2/\la=lb/\cd=cd2/\tx=tx2
theorem c59 (kd ep cd kd2 ep2 cd2:Int) (fn ft kn kt ka tx fn2 ft2 kn2 kt2 ka2 tx2:ByteArray) (ai bi:Option Addr) (la lb ci di:Nat) (w:World) (hla:la<=1048576) (hlb:lb<=1048576):
 Calls prog 59 #[.agg #[.int .i64 kd,.int .i64 ep,.string fn,.string ft,.string kn,.string kt,.string ka,.slice ai la ci,.int .i64 cd,.string tx],.agg #[.int .i64 kd2,.int .i64 ep2,.string fn2,.string ft2,.string kn2,.string kt2,.string ka2,.slice bi lb di,.int .i64 cd2,.string tx2]] w fun e w'=>IsB (Sm26 ep fn ft kn kt ka cd tx ep2 fn2 ft2 kn2 kt2 ka2 cd2 tx2 la lb) e/\Below w.heap.size w w':=by
 have hB0:∀ o p,Below w.heap.size w ((w.alloc o).alloc p):=fun o p=>bA_.alloc sm_ _;rcases (Classical.em (ep=ep2)).symm with e0 | e0
 · have HN:Hid (IsB (Sm26 ep fn ft kn kt ka cd tx ep2 fn2 ft2 kn2 kt2 ka2 cd2 tx2 la lb) (.returned (.bool false))):=isB_no (fun h=>e0 h.1)
   go_enter func59,ntmps59;go_wp2
   all_goals go_ret
   all_goals exact ⟨HN.out,hB0 _ _⟩
 obtain rfl:=e0;rcases (Classical.em (fn.toList=fn2.toList)).symm with e1 | e1
 · have HN:Hid (IsB (Sm26 ep fn ft kn kt ka cd tx ep fn2 ft2 kn2 kt2 ka2 cd2 tx2 la lb) (.returned (.bool false))):=isB_no (fun h=>e1 (by rw [h.2.1]))
   go_enter func59,ntmps59;go_wp2
   all_goals go_ret
   all_goals exact ⟨HN.out,hB0 _ _⟩
 obtain rfl:=(ba_iff _ _).1 e1;clear e1;rcases (Classical.em (ft.toList=ft2.toList)).symm with e2 | e2
 · have HN:Hid (IsB (Sm26 ep fn ft kn kt ka cd tx ep fn ft2 kn2 kt2 ka2 cd2 tx2 la lb) (.returned (.bool false))):=isB_no (fun h=>e2 (by rw [h.2.2.1]))
   go_enter func59,ntmps59;go_wp2
   all_goals go_ret
   all_goals exact ⟨HN.out,hB0 _ _⟩
 obtain rfl:=(ba_iff _ _).1 e2;clear e2;rcases (Classical.em (kn.toList=kn2.toList)).symm with e3 | e3
 · have HN:Hid (IsB (Sm26 ep fn ft kn kt ka cd tx ep fn ft kn2 kt2 ka2 cd2 tx2 la lb) (.returned (.bool false))):=isB_no (fun h=>e3 (by rw [h.2.2.2.1]))
   go_enter func59,ntmps59;go_wp2
   all_goals go_ret
   all_goals exact ⟨HN.out,hB0 _ _⟩
 obtain rfl:=(ba_iff _ _).1 e3;clear e3;rcases (Classical.em (kt.toList=kt2.toList)).symm with e4 | e4
 · have HN:Hid (IsB (Sm26 ep fn ft kn kt ka cd tx ep fn ft kn kt2 ka2 cd2 tx2 la lb) (.returned (.bool false))):=isB_no (fun h=>e4 (by rw [h.2.2.2.2.1]))
   go_enter func59,ntmps59;go_wp2
   all_goals go_ret
   all_goals exact ⟨HN.out,hB0 _ _⟩
 obtain rfl:=(ba_iff _ _).1 e4;clear e4;rcases (Classical.em (ka.toList=ka2.toList)).symm with e5 | e5
 · have HN:Hid (IsB (Sm26 ep fn ft kn kt ka cd tx ep fn ft kn kt ka2 cd2 tx2 la lb) (.returned (.bool false))):=isB_no (fun h=>e5 (by rw [h.2.2.2.2.2.1]))
   go_enter func59,ntmps59;go_wp2
   all_goals go_ret
   all_goals exact ⟨HN.out,hB0 _ _⟩
 obtain rfl:=(ba_iff _ _).1 e5;clear e5;rcases (Classical.em (la=lb)).symm with hlen | hlen
 · have HN:Hid (IsB (Sm26 ep fn ft kn kt ka cd tx ep fn ft kn kt ka cd2 tx2 la lb) (.returned (.bool false))):=isB_no (fun h=>hlen h.2.2.2.2.2.2.1)
   have hlen2:¬ (la:Int)=(lb:Int):=om_;go_enter func59,ntmps59;go_wp2
   all_goals go_ret
   all_goals exact ⟨HN.out,hB0 _ _⟩
 obtain rfl:=hlen;rcases (Classical.em (cd=cd2)).symm with e7 | e7
 · have HN:Hid (IsB (Sm26 ep fn ft kn kt ka cd tx ep fn ft kn kt ka cd2 tx2 la la) (.returned (.bool false))):=isB_no (fun h=>e7 h.2.2.2.2.2.2.2.1)
   go_enter func59,ntmps59;go_wp2
   all_goals go_ret
   all_goals exact ⟨HN.out,hB0 _ _⟩
 obtain rfl:=e7;rcases (Classical.em (tx.toList=tx2.toList)).symm with e8 | e8
 · have HN:Hid (IsB (Sm26 ep fn ft kn kt ka cd tx ep fn ft kn kt ka cd tx2 la la) (.returned (.bool false))):=isB_no (fun h=>e8 (by rw [h.2.2.2.2.2.2.2.2]))
   go_enter func59,ntmps59;go_wp2
   all_goals go_ret
   all_goals exact ⟨HN.out,hB0 _ _⟩
 obtain rfl:=(ba_iff _ _).1 e8;clear e8;have HN:Hid (IsB (Sm26 ep fn ft kn kt ka cd tx ep fn ft kn kt ka cd tx la la) (.returned (.bool true))):=isB_yes ⟨rfl,rfl,rfl,rfl,rfl,rfl,rfl,rfl,rfl⟩;go_enter func59,ntmps59;go_wp2
 all_goals go_ret
 all_goals exact ⟨HN.out,hB0 _ _⟩
end Go.Proofs.YtlckdgjfniglfaaGreatDoor
