import Derived.Test.YthjhakdpikdoeaaGreatDoorKY3
set_option linter.unusedVariables false
set_option maxHeartbeats 8000000
set_option maxRecDepth 100000
namespace Go.Proofs.YthjhakdpikdoeaaGreatDoor.M
open Proofs.Tryz
open Go.RowKit
def Sm59 (to:Int) (fr:Int) (ep:Int) (ed:Int) (kn:ByteArray) (kt:ByteArray) (ka:ByteArray) (ct:Int) (ov:Bool) (cd:Int) (tx:ByteArray) (hs:Bool) (nm:ByteArray) (st:Int) (to2:Int) (fr2:Int) (ep2:Int) (ed2:Int) (kn2:ByteArray) (kt2:ByteArray) (ka2:ByteArray) (ct2:Int) (ov2:Bool) (cd2:Int) (tx2:ByteArray) (hs2:Bool) (nm2:ByteArray) (st2:Int) (la lb:Nat):Prop:=to=to2/\fr=fr2/\ep=ep2/\ed=ed2/\kn=kn2/\kt=kt2/\ka=ka2/\la=lb/\ct=ct2/\ov=ov2/\cd=cd2/\tx=tx2/\hs=hs2/\nm=nm2/\st=st2
theorem c59 (kd to fr ep ed ct cd st:Int) (kn kt ka tx nm:ByteArray) (ov hs:Bool) (kd2 to2 fr2 ep2 ed2 ct2 cd2 st2:Int) (kn2 kt2 ka2 tx2 nm2:ByteArray) (ov2 hs2:Bool) (ai bi:Option Addr) (la lb ci di:Nat) (w:World) (hla:la<=1048576) (hlb:lb<=1048576):
 Calls prog 59 #[.agg #[.int .i64 kd,.int .i64 to,.int .i64 fr,.int .i64 ep,.int .i64 ed,.string kn,.string kt,.string ka,.slice ai la ci,.int .i64 ct,.bool ov,.int .i64 cd,.string tx,.bool hs,.string nm,.int .i64 st],.agg #[.int .i64 kd2,.int .i64 to2,.int .i64 fr2,.int .i64 ep2,.int .i64 ed2,.string kn2,.string kt2,.string ka2,.slice bi lb di,.int .i64 ct2,.bool ov2,.int .i64 cd2,.string tx2,.bool hs2,.string nm2,.int .i64 st2]] w fun e w'=>IsB (Sm59 to fr ep ed kn kt ka ct ov cd tx hs nm st to2 fr2 ep2 ed2 kn2 kt2 ka2 ct2 ov2 cd2 tx2 hs2 nm2 st2 la lb) e/\Below w.heap.size w w':=by
 have hB0:∀ o p,Below w.heap.size w ((w.alloc o).alloc p):=fun o p=>bA.alloc sm_ _;rcases (Classical.em (to=to2)).symm with e0 | e0
 · have HN:Hid (IsB (Sm59 to fr ep ed kn kt ka ct ov cd tx hs nm st to2 fr2 ep2 ed2 kn2 kt2 ka2 ct2 ov2 cd2 tx2 hs2 nm2 st2 la lb) (.returned (.bool false))):=isB_no (fun h=>e0 h.1)
   go_enter func59,ntmps59;go_wp2
   all_goals go_ret
   all_goals exact ⟨HN.out,hB0 _ _⟩
 obtain rfl:=e0;rcases (Classical.em (fr=fr2)).symm with e1 | e1
 · have HN:Hid (IsB (Sm59 to fr ep ed kn kt ka ct ov cd tx hs nm st to fr2 ep2 ed2 kn2 kt2 ka2 ct2 ov2 cd2 tx2 hs2 nm2 st2 la lb) (.returned (.bool false))):=isB_no (fun h=>e1 h.2.1)
   go_enter func59,ntmps59;go_wp2
   all_goals go_ret
   all_goals exact ⟨HN.out,hB0 _ _⟩
 obtain rfl:=e1;rcases (Classical.em (ep=ep2)).symm with e2 | e2
 · have HN:Hid (IsB (Sm59 to fr ep ed kn kt ka ct ov cd tx hs nm st to fr ep2 ed2 kn2 kt2 ka2 ct2 ov2 cd2 tx2 hs2 nm2 st2 la lb) (.returned (.bool false))):=isB_no (fun h=>e2 h.2.2.1)
   go_enter func59,ntmps59;go_wp2
   all_goals go_ret
   all_goals exact ⟨HN.out,hB0 _ _⟩
 obtain rfl:=e2;rcases (Classical.em (ed=ed2)).symm with e3 | e3
 · have HN:Hid (IsB (Sm59 to fr ep ed kn kt ka ct ov cd tx hs nm st to fr ep ed2 kn2 kt2 ka2 ct2 ov2 cd2 tx2 hs2 nm2 st2 la lb) (.returned (.bool false))):=isB_no (fun h=>e3 h.2.2.2.1)
   go_enter func59,ntmps59;go_wp2
   all_goals go_ret
   all_goals exact ⟨HN.out,hB0 _ _⟩
 obtain rfl:=e3;rcases (Classical.em (kn.toList=kn2.toList)).symm with e4 | e4
 · have HN:Hid (IsB (Sm59 to fr ep ed kn kt ka ct ov cd tx hs nm st to fr ep ed kn2 kt2 ka2 ct2 ov2 cd2 tx2 hs2 nm2 st2 la lb) (.returned (.bool false))):=isB_no (fun h=>e4 (by rw [h.2.2.2.2.1]))
   go_enter func59,ntmps59;go_wp2
   all_goals go_ret
   all_goals exact ⟨HN.out,hB0 _ _⟩
 obtain rfl:=(ba_iff _ _).1 e4;clear e4;rcases (Classical.em (kt.toList=kt2.toList)).symm with e5 | e5
 · have HN:Hid (IsB (Sm59 to fr ep ed kn kt ka ct ov cd tx hs nm st to fr ep ed kn kt2 ka2 ct2 ov2 cd2 tx2 hs2 nm2 st2 la lb) (.returned (.bool false))):=isB_no (fun h=>e5 (by rw [h.2.2.2.2.2.1]))
   go_enter func59,ntmps59;go_wp2
   all_goals go_ret
   all_goals exact ⟨HN.out,hB0 _ _⟩
 obtain rfl:=(ba_iff _ _).1 e5;clear e5;rcases (Classical.em (ka.toList=ka2.toList)).symm with e6 | e6
 · have HN:Hid (IsB (Sm59 to fr ep ed kn kt ka ct ov cd tx hs nm st to fr ep ed kn kt ka2 ct2 ov2 cd2 tx2 hs2 nm2 st2 la lb) (.returned (.bool false))):=isB_no (fun h=>e6 (by rw [h.2.2.2.2.2.2.1]))
   go_enter func59,ntmps59;go_wp2
   all_goals go_ret
   all_goals exact ⟨HN.out,hB0 _ _⟩
 obtain rfl:=(ba_iff _ _).1 e6;clear e6;rcases (Classical.em (la=lb)).symm with hlen | hlen
 · have HN:Hid (IsB (Sm59 to fr ep ed kn kt ka ct ov cd tx hs nm st to fr ep ed kn kt ka ct2 ov2 cd2 tx2 hs2 nm2 st2 la lb) (.returned (.bool false))):=isB_no (fun h=>hlen h.2.2.2.2.2.2.2.1)
   have hlen2:¬ (la:Int)=(lb:Int):=om_;go_enter func59,ntmps59;go_wp2;go_ret;exact ⟨HN.out,hB0 _ _⟩
 obtain rfl:=hlen;rcases (Classical.em (ct=ct2)).symm with e8 | e8
 · have HN:Hid (IsB (Sm59 to fr ep ed kn kt ka ct ov cd tx hs nm st to fr ep ed kn kt ka ct2 ov2 cd2 tx2 hs2 nm2 st2 la la) (.returned (.bool false))):=isB_no (fun h=>e8 h.2.2.2.2.2.2.2.2.1)
   go_enter func59,ntmps59;go_wp2
   all_goals go_ret
   all_goals exact ⟨HN.out,hB0 _ _⟩
 obtain rfl:=e8;rcases (Classical.em (ov=ov2)).symm with e9 | e9
 · have HN:Hid (IsB (Sm59 to fr ep ed kn kt ka ct ov cd tx hs nm st to fr ep ed kn kt ka ct ov2 cd2 tx2 hs2 nm2 st2 la la) (.returned (.bool false))):=isB_no (fun h=>e9 h.2.2.2.2.2.2.2.2.2.1)
   go_enter func59,ntmps59;go_wp2
   all_goals go_ret
   all_goals exact ⟨HN.out,hB0 _ _⟩
 obtain rfl:=e9;rcases (Classical.em (cd=cd2)).symm with e10 | e10
 · have HN:Hid (IsB (Sm59 to fr ep ed kn kt ka ct ov cd tx hs nm st to fr ep ed kn kt ka ct ov cd2 tx2 hs2 nm2 st2 la la) (.returned (.bool false))):=isB_no (fun h=>e10 h.2.2.2.2.2.2.2.2.2.2.1)
   go_enter func59,ntmps59;go_wp2
   all_goals go_ret
   all_goals exact ⟨HN.out,hB0 _ _⟩
 obtain rfl:=e10;rcases (Classical.em (tx.toList=tx2.toList)).symm with e11 | e11
 · have HN:Hid (IsB (Sm59 to fr ep ed kn kt ka ct ov cd tx hs nm st to fr ep ed kn kt ka ct ov cd tx2 hs2 nm2 st2 la la) (.returned (.bool false))):=isB_no (fun h=>e11 (by rw [h.2.2.2.2.2.2.2.2.2.2.2.1]))
   go_enter func59,ntmps59;go_wp2
   all_goals go_ret
   all_goals exact ⟨HN.out,hB0 _ _⟩
 obtain rfl:=(ba_iff _ _).1 e11;clear e11;rcases (Classical.em (hs=hs2)).symm with e12 | e12
 · have HN:Hid (IsB (Sm59 to fr ep ed kn kt ka ct ov cd tx hs nm st to fr ep ed kn kt ka ct ov cd tx hs2 nm2 st2 la la) (.returned (.bool false))):=isB_no (fun h=>e12 h.2.2.2.2.2.2.2.2.2.2.2.2.1)
   go_enter func59,ntmps59;go_wp2
   all_goals go_ret
   all_goals exact ⟨HN.out,hB0 _ _⟩
 obtain rfl:=e12;rcases (Classical.em (nm.toList=nm2.toList)).symm with e13 | e13
 · have HN:Hid (IsB (Sm59 to fr ep ed kn kt ka ct ov cd tx hs nm st to fr ep ed kn kt ka ct ov cd tx hs nm2 st2 la la) (.returned (.bool false))):=isB_no (fun h=>e13 (by rw [h.2.2.2.2.2.2.2.2.2.2.2.2.2.1]))
   go_enter func59,ntmps59;go_wp2
   all_goals go_ret
   all_goals exact ⟨HN.out,hB0 _ _⟩
 obtain rfl:=(ba_iff _ _).1 e13;clear e13;rcases (Classical.em (st=st2)).symm with e14 | e14
 · have HN:Hid (IsB (Sm59 to fr ep ed kn kt ka ct ov cd tx hs nm st to fr ep ed kn kt ka ct ov cd tx hs nm st2 la la) (.returned (.bool false))):=isB_no (fun h=>e14 h.2.2.2.2.2.2.2.2.2.2.2.2.2.2)
   go_enter func59,ntmps59;go_wp2
   all_goals go_ret
   all_goals exact ⟨HN.out,hB0 _ _⟩
 obtain rfl:=e14;have HY:Hid (IsB (Sm59 to fr ep ed kn kt ka ct ov cd tx hs nm st to fr ep ed kn kt ka ct ov cd tx hs nm st la la) (.returned (.bool true))):=isB_yes (by simp [Sm59]);go_enter func59,ntmps59;go_wp2;go_ret;exact ⟨HY.out,hB0 _ _⟩
end Go.Proofs.YthjhakdpikdoeaaGreatDoor.M
