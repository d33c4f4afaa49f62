import Derived.Test.YthjhakdpikdoeaaGreatDoorKY3
set_option linter.unusedVariables false
set_option maxHeartbeats 8000000
set_option maxRecDepth 100000
namespace Go.Proofs.YthjhakdpikdoeaaGreatDoor.M
open Proofs.Tryz
open Go.RowKit
def Sm30 (kd:Int) (to:Int) (fr:Int) (ep:Int) (ed:Int) (kn:ByteArray) (kt:ByteArray) (ka:ByteArray) (ct:Int) (ov:Bool) (cd:Int) (tx:ByteArray) (hs:Bool) (nm:ByteArray) (st:Int) (kd2:Int) (to2:Int) (fr2:Int) (ep2:Int) (ed2:Int) (kn2:ByteArray) (kt2:ByteArray) (ka2:ByteArray) (ct2:Int) (ov2:Bool) (cd2:Int) (tx2:ByteArray) (hs2:Bool) (nm2:ByteArray) (st2:Int) (s:Bool):Prop:=kd=kd2/\to=to2/\fr=fr2/\ep=ep2/\ed=ed2/\kn=kn2/\kt=kt2/\ka=ka2/\s=true/\ct=ct2/\ov=ov2/\cd=cd2/\tx=tx2/\hs=hs2/\nm=nm2/\st=st2
theorem c34 (kd to fr ep ed ct cd st:Int) (kn kt ka tx nm:ByteArray) (ov hs:Bool) (kd2 to2 fr2 ep2 ed2 ct2 cd2 st2:Int) (kn2 kt2 ka2 tx2 nm2:ByteArray) (ov2 hs2:Bool) (ai bi:Option Addr) (la lb ci di:Nat) (s:Bool) (w:World)  (h69:∀ u,Below w.heap.size w u->Calls prog 68 #[.slice ai la ci,.slice bi lb di] u fun e u'=>e=.returned (.bool s)/\Below u.heap.size u u'):
 Calls prog 34 #[.agg #[.int .i64 kd,.int .i64 to,.int .i64 fr,.int .i64 ep,.int .i64 ed,.string kn,.string kt,.string ka,.slice ai la ci,.int .i64 ct,.bool ov,.int .i64 cd,.string tx,.bool hs,.string nm,.int .i64 st],.agg #[.int .i64 kd2,.int .i64 to2,.int .i64 fr2,.int .i64 ep2,.int .i64 ed2,.string kn2,.string kt2,.string ka2,.slice bi lb di,.int .i64 ct2,.bool ov2,.int .i64 cd2,.string tx2,.bool hs2,.string nm2,.int .i64 st2]] w fun e w'=>IsB (Sm30 kd to fr ep ed kn kt ka ct ov cd tx hs nm st kd2 to2 fr2 ep2 ed2 kn2 kt2 ka2 ct2 ov2 cd2 tx2 hs2 nm2 st2 s) e/\Below w.heap.size w w':=by
 have hB0:∀ o p,Below w.heap.size w ((w.alloc o).alloc p):=fun o p=>bA.alloc sm_ _;rcases (Classical.em (kd=kd2)).symm with e0 | e0
 · have HN:Hid (IsB (Sm30 kd to fr ep ed kn kt ka ct ov cd tx hs nm st kd2 to2 fr2 ep2 ed2 kn2 kt2 ka2 ct2 ov2 cd2 tx2 hs2 nm2 st2 s) (.returned (.bool false))):=isB_no (fun h=>e0 h.1)
   go_enter func34,ntmps34;go_wp2
   all_goals go_ret
   all_goals exact ⟨HN.out,hB0 _ _⟩
 obtain rfl:=e0;rcases (Classical.em (to=to2)).symm with e1 | e1
 · have HN:Hid (IsB (Sm30 kd to fr ep ed kn kt ka ct ov cd tx hs nm st kd to2 fr2 ep2 ed2 kn2 kt2 ka2 ct2 ov2 cd2 tx2 hs2 nm2 st2 s) (.returned (.bool false))):=isB_no (fun h=>e1 h.2.1)
   go_enter func34,ntmps34;go_wp2
   all_goals go_ret
   all_goals exact ⟨HN.out,hB0 _ _⟩
 obtain rfl:=e1;rcases (Classical.em (fr=fr2)).symm with e2 | e2
 · have HN:Hid (IsB (Sm30 kd to fr ep ed kn kt ka ct ov cd tx hs nm st kd to fr2 ep2 ed2 kn2 kt2 ka2 ct2 ov2 cd2 tx2 hs2 nm2 st2 s) (.returned (.bool false))):=isB_no (fun h=>e2 h.2.2.1)
   go_enter func34,ntmps34;go_wp2
   all_goals go_ret
   all_goals exact ⟨HN.out,hB0 _ _⟩
 obtain rfl:=e2;rcases (Classical.em (ep=ep2)).symm with e3 | e3
 · have HN:Hid (IsB (Sm30 kd to fr ep ed kn kt ka ct ov cd tx hs nm st kd to fr ep2 ed2 kn2 kt2 ka2 ct2 ov2 cd2 tx2 hs2 nm2 st2 s) (.returned (.bool false))):=isB_no (fun h=>e3 h.2.2.2.1)
   go_enter func34,ntmps34;go_wp2
   all_goals go_ret
   all_goals exact ⟨HN.out,hB0 _ _⟩
 obtain rfl:=e3;rcases (Classical.em (ed=ed2)).symm with e4 | e4
 · have HN:Hid (IsB (Sm30 kd to fr ep ed kn kt ka ct ov cd tx hs nm st kd to fr ep ed2 kn2 kt2 ka2 ct2 ov2 cd2 tx2 hs2 nm2 st2 s) (.returned (.bool false))):=isB_no (fun h=>e4 h.2.2.2.2.1)
   go_enter func34,ntmps34;go_wp2
   all_goals go_ret
   all_goals exact ⟨HN.out,hB0 _ _⟩
 obtain rfl:=e4;rcases (Classical.em (kn.toList=kn2.toList)).symm with e5 | e5
 · have HN:Hid (IsB (Sm30 kd to fr ep ed kn kt ka ct ov cd tx hs nm st kd to fr ep ed kn2 kt2 ka2 ct2 ov2 cd2 tx2 hs2 nm2 st2 s) (.returned (.bool false))):=isB_no (fun h=>e5 (by rw [h.2.2.2.2.2.1]))
   go_enter func34,ntmps34;go_wp2
   all_goals go_ret
   all_goals exact ⟨HN.out,hB0 _ _⟩
 obtain rfl:=(ba_iff _ _).1 e5;clear e5;rcases (Classical.em (kt.toList=kt2.toList)).symm with e6 | e6
 · have HN:Hid (IsB (Sm30 kd to fr ep ed kn kt ka ct ov cd tx hs nm st kd to fr ep ed kn kt2 ka2 ct2 ov2 cd2 tx2 hs2 nm2 st2 s) (.returned (.bool false))):=isB_no (fun h=>e6 (by rw [h.2.2.2.2.2.2.1]))
   go_enter func34,ntmps34;go_wp2
   all_goals go_ret
   all_goals exact ⟨HN.out,hB0 _ _⟩
 obtain rfl:=(ba_iff _ _).1 e6;clear e6;rcases (Classical.em (ka.toList=ka2.toList)).symm with e7 | e7
 · have HN:Hid (IsB (Sm30 kd to fr ep ed kn kt ka ct ov cd tx hs nm st kd to fr ep ed kn kt ka2 ct2 ov2 cd2 tx2 hs2 nm2 st2 s) (.returned (.bool false))):=isB_no (fun h=>e7 (by rw [h.2.2.2.2.2.2.2.1]))
   go_enter func34,ntmps34;go_wp2
   all_goals go_ret
   all_goals exact ⟨HN.out,hB0 _ _⟩
 obtain rfl:=(ba_iff _ _).1 e7;clear e7;cases s
 · have HN:Hid (IsB (Sm30 kd to fr ep ed kn kt ka ct ov cd tx hs nm st kd to fr ep ed kn kt ka ct2 ov2 cd2 tx2 hs2 nm2 st2 false) (.returned (.bool false))):=isB_no (fun h=>absurd h.2.2.2.2.2.2.2.2.1 Bool.false_ne_true)
   go_enter func34,ntmps34
   go_wp2_with fail
   refine (h69 _ (hB0 _ _)).mono ?_;rintro e w1 ⟨rfl,hb1⟩;have hx1:Below (w.heap.size+2) ((w.alloc (.cells #[.int .i64 kd,.int .i64 to,.int .i64 fr,.int .i64 ep,.int .i64 ed,.string kn,.string kt,.string ka,.slice ai la ci,.int .i64 ct,.bool ov,.int .i64 cd,.string tx,.bool hs,.string nm,.int .i64 st] 31)).alloc (.cells #[.int .i64 kd,.int .i64 to,.int .i64 fr,.int .i64 ep,.int .i64 ed,.string kn,.string kt,.string ka,.slice bi lb di,.int .i64 ct2,.bool ov2,.int .i64 cd2,.string tx2,.bool hs2,.string nm2,.int .i64 st2] 31)) w1:=by have h:=hb1;simp at h;exact h
   have hB1:Below w.heap.size w w1:=(hB0 _ _).trans (hx1.mono om_);have ZA:BlkAt w1 w.heap.size [.int .i64 kd,.int .i64 to,.int .i64 fr,.int .i64 ep,.int .i64 ed,.string kn,.string kt,.string ka,.slice ai la ci,.int .i64 ct,.bool ov,.int .i64 cd,.string tx,.bool hs,.string nm,.int .i64 st]:=fun j v h=>(hx1.cell (p:=⟨w.heap.size,j,none⟩) (by show w.heap.size<w.heap.size+2;omega)).trans (by simp [go_sem,h]);have ZB:BlkAt w1 (w.heap.size+1) [.int .i64 kd,.int .i64 to,.int .i64 fr,.int .i64 ep,.int .i64 ed,.string kn,.string kt,.string ka,.slice bi lb di,.int .i64 ct2,.bool ov2,.int .i64 cd2,.string tx2,.bool hs2,.string nm2,.int .i64 st2]:=fun j v h=>(hx1.cell (p:=⟨w.heap.size+1,j,none⟩) (by show w.heap.size+1<w.heap.size+2;omega)).trans (by simp [go_sem,h]);have a9:=ZA 9 _ rfl;have b9:=ZB 9 _ rfl;have a10:=ZA 10 _ rfl;have b10:=ZB 10 _ rfl;have a11:=ZA 11 _ rfl;have b11:=ZB 11 _ rfl;have a12:=ZA 12 _ rfl;have b12:=ZB 12 _ rfl;have a13:=ZA 13 _ rfl;have b13:=ZB 13 _ rfl;have a14:=ZA 14 _ rfl;have b14:=ZB 14 _ rfl;have a15:=ZA 15 _ rfl;have b15:=ZB 15 _ rfl;clear hb1 hx1 ZA ZB;go_wp2;go_ret;exact ⟨HN.out,hB1⟩
 rcases (Classical.em (ct=ct2)).symm with e9 | e9
 · have HN:Hid (IsB (Sm30 kd to fr ep ed kn kt ka ct ov cd tx hs nm st kd to fr ep ed kn kt ka ct2 ov2 cd2 tx2 hs2 nm2 st2 true) (.returned (.bool false))):=isB_no (fun h=>e9 h.2.2.2.2.2.2.2.2.2.1)
   go_enter func34,ntmps34
   go_wp2_with fail
   refine (h69 _ (hB0 _ _)).mono ?_;rintro e w1 ⟨rfl,hb1⟩;have hx1:Below (w.heap.size+2) ((w.alloc (.cells #[.int .i64 kd,.int .i64 to,.int .i64 fr,.int .i64 ep,.int .i64 ed,.string kn,.string kt,.string ka,.slice ai la ci,.int .i64 ct,.bool ov,.int .i64 cd,.string tx,.bool hs,.string nm,.int .i64 st] 31)).alloc (.cells #[.int .i64 kd,.int .i64 to,.int .i64 fr,.int .i64 ep,.int .i64 ed,.string kn,.string kt,.string ka,.slice bi lb di,.int .i64 ct2,.bool ov2,.int .i64 cd2,.string tx2,.bool hs2,.string nm2,.int .i64 st2] 31)) w1:=by have h:=hb1;simp at h;exact h
   have hB1:Below w.heap.size w w1:=(hB0 _ _).trans (hx1.mono om_);have ZA:BlkAt w1 w.heap.size [.int .i64 kd,.int .i64 to,.int .i64 fr,.int .i64 ep,.int .i64 ed,.string kn,.string kt,.string ka,.slice ai la ci,.int .i64 ct,.bool ov,.int .i64 cd,.string tx,.bool hs,.string nm,.int .i64 st]:=fun j v h=>(hx1.cell (p:=⟨w.heap.size,j,none⟩) (by show w.heap.size<w.heap.size+2;omega)).trans (by simp [go_sem,h]);have ZB:BlkAt w1 (w.heap.size+1) [.int .i64 kd,.int .i64 to,.int .i64 fr,.int .i64 ep,.int .i64 ed,.string kn,.string kt,.string ka,.slice bi lb di,.int .i64 ct2,.bool ov2,.int .i64 cd2,.string tx2,.bool hs2,.string nm2,.int .i64 st2]:=fun j v h=>(hx1.cell (p:=⟨w.heap.size+1,j,none⟩) (by show w.heap.size+1<w.heap.size+2;omega)).trans (by simp [go_sem,h]);have a9:=ZA 9 _ rfl;have b9:=ZB 9 _ rfl;have a10:=ZA 10 _ rfl;have b10:=ZB 10 _ rfl;have a11:=ZA 11 _ rfl;have b11:=ZB 11 _ rfl;have a12:=ZA 12 _ rfl;have b12:=ZB 12 _ rfl;have a13:=ZA 13 _ rfl;have b13:=ZB 13 _ rfl;have a14:=ZA 14 _ rfl;have b14:=ZB 14 _ rfl;have a15:=ZA 15 _ rfl;have b15:=ZB 15 _ rfl;clear hb1 hx1 ZA ZB;go_wp2
   all_goals go_ret
   all_goals exact ⟨HN.out,hB1⟩
 obtain rfl:=e9;rcases (Classical.em (ov=ov2)).symm with e10 | e10
 · have HN:Hid (IsB (Sm30 kd to fr ep ed kn kt ka ct ov cd tx hs nm st kd to fr ep ed kn kt ka ct ov2 cd2 tx2 hs2 nm2 st2 true) (.returned (.bool false))):=isB_no (fun h=>e10 h.2.2.2.2.2.2.2.2.2.2.1)
   go_enter func34,ntmps34
   go_wp2_with fail
   refine (h69 _ (hB0 _ _)).mono ?_;rintro e w1 ⟨rfl,hb1⟩;have hx1:Below (w.heap.size+2) ((w.alloc (.cells #[.int .i64 kd,.int .i64 to,.int .i64 fr,.int .i64 ep,.int .i64 ed,.string kn,.string kt,.string ka,.slice ai la ci,.int .i64 ct,.bool ov,.int .i64 cd,.string tx,.bool hs,.string nm,.int .i64 st] 31)).alloc (.cells #[.int .i64 kd,.int .i64 to,.int .i64 fr,.int .i64 ep,.int .i64 ed,.string kn,.string kt,.string ka,.slice bi lb di,.int .i64 ct,.bool ov2,.int .i64 cd2,.string tx2,.bool hs2,.string nm2,.int .i64 st2] 31)) w1:=by have h:=hb1;simp at h;exact h
   have hB1:Below w.heap.size w w1:=(hB0 _ _).trans (hx1.mono om_);have ZA:BlkAt w1 w.heap.size [.int .i64 kd,.int .i64 to,.int .i64 fr,.int .i64 ep,.int .i64 ed,.string kn,.string kt,.string ka,.slice ai la ci,.int .i64 ct,.bool ov,.int .i64 cd,.string tx,.bool hs,.string nm,.int .i64 st]:=fun j v h=>(hx1.cell (p:=⟨w.heap.size,j,none⟩) (by show w.heap.size<w.heap.size+2;omega)).trans (by simp [go_sem,h]);have ZB:BlkAt w1 (w.heap.size+1) [.int .i64 kd,.int .i64 to,.int .i64 fr,.int .i64 ep,.int .i64 ed,.string kn,.string kt,.string ka,.slice bi lb di,.int .i64 ct,.bool ov2,.int .i64 cd2,.string tx2,.bool hs2,.string nm2,.int .i64 st2]:=fun j v h=>(hx1.cell (p:=⟨w.heap.size+1,j,none⟩) (by show w.heap.size+1<w.heap.size+2;omega)).trans (by simp [go_sem,h]);have a9:=ZA 9 _ rfl;have b9:=ZB 9 _ rfl;have a10:=ZA 10 _ rfl;have b10:=ZB 10 _ rfl;have a11:=ZA 11 _ rfl;have b11:=ZB 11 _ rfl;have a12:=ZA 12 _ rfl;have b12:=ZB 12 _ rfl;have a13:=ZA 13 _ rfl;have b13:=ZB 13 _ rfl;have a14:=ZA 14 _ rfl;have b14:=ZB 14 _ rfl;have a15:=ZA 15 _ rfl;have b15:=ZB 15 _ rfl;clear hb1 hx1 ZA ZB;go_wp2
   all_goals go_ret
   all_goals exact ⟨HN.out,hB1⟩
 obtain rfl:=e10;rcases (Classical.em (cd=cd2)).symm with e11 | e11
 · have HN:Hid (IsB (Sm30 kd to fr ep ed kn kt ka ct ov cd tx hs nm st kd to fr ep ed kn kt ka ct ov cd2 tx2 hs2 nm2 st2 true) (.returned (.bool false))):=isB_no (fun h=>e11 h.2.2.2.2.2.2.2.2.2.2.2.1)
   go_enter func34,ntmps34
   go_wp2_with fail
   refine (h69 _ (hB0 _ _)).mono ?_;rintro e w1 ⟨rfl,hb1⟩;have hx1:Below (w.heap.size+2) ((w.alloc (.cells #[.int .i64 kd,.int .i64 to,.int .i64 fr,.int .i64 ep,.int .i64 ed,.string kn,.string kt,.string ka,.slice ai la ci,.int .i64 ct,.bool ov,.int .i64 cd,.string tx,.bool hs,.string nm,.int .i64 st] 31)).alloc (.cells #[.int .i64 kd,.int .i64 to,.int .i64 fr,.int .i64 ep,.int .i64 ed,.string kn,.string kt,.string ka,.slice bi lb di,.int .i64 ct,.bool ov,.int .i64 cd2,.string tx2,.bool hs2,.string nm2,.int .i64 st2] 31)) w1:=by have h:=hb1;simp at h;exact h
   have hB1:Below w.heap.size w w1:=(hB0 _ _).trans (hx1.mono om_);have ZA:BlkAt w1 w.heap.size [.int .i64 kd,.int .i64 to,.int .i64 fr,.int .i64 ep,.int .i64 ed,.string kn,.string kt,.string ka,.slice ai la ci,.int .i64 ct,.bool ov,.int .i64 cd,.string tx,.bool hs,.string nm,.int .i64 st]:=fun j v h=>(hx1.cell (p:=⟨w.heap.size,j,none⟩) (by show w.heap.size<w.heap.size+2;omega)).trans (by simp [go_sem,h]);have ZB:BlkAt w1 (w.heap.size+1) [.int .i64 kd,.int .i64 to,.int .i64 fr,.int .i64 ep,.int .i64 ed,.string kn,.string kt,.string ka,.slice bi lb di,.int .i64 ct,.bool ov,.int .i64 cd2,.string tx2,.bool hs2,.string nm2,.int .i64 st2]:=fun j v h=>(hx1.cell (p:=⟨w.heap.size+1,j,none⟩) (by show w.heap.size+1<w.heap.size+2;omega)).trans (by simp [go_sem,h]);have a9:=ZA 9 _ rfl;have b9:=ZB 9 _ rfl;have a10:=ZA 10 _ rfl;have b10:=ZB 10 _ rfl;have a11:=ZA 11 _ rfl;have b11:=ZB 11 _ rfl;have a12:=ZA 12 _ rfl;have b12:=ZB 12 _ rfl;have a13:=ZA 13 _ rfl;have b13:=ZB 13 _ rfl;have a14:=ZA 14 _ rfl;have b14:=ZB 14 _ rfl;have a15:=ZA 15 _ rfl;have b15:=ZB 15 _ rfl;clear hb1 hx1 ZA ZB;go_wp2
   all_goals go_ret
   all_goals exact ⟨HN.out,hB1⟩
 obtain rfl:=e11;rcases (Classical.em (tx.toList=tx2.toList)).symm with e12 | e12
 · have HN:Hid (IsB (Sm30 kd to fr ep ed kn kt ka ct ov cd tx hs nm st kd to fr ep ed kn kt ka ct ov cd tx2 hs2 nm2 st2 true) (.returned (.bool false))):=isB_no (fun h=>e12 (by rw [h.2.2.2.2.2.2.2.2.2.2.2.2.1]))
   go_enter func34,ntmps34
   go_wp2_with fail
   refine (h69 _ (hB0 _ _)).mono ?_;rintro e w1 ⟨rfl,hb1⟩;have hx1:Below (w.heap.size+2) ((w.alloc (.cells #[.int .i64 kd,.int .i64 to,.int .i64 fr,.int .i64 ep,.int .i64 ed,.string kn,.string kt,.string ka,.slice ai la ci,.int .i64 ct,.bool ov,.int .i64 cd,.string tx,.bool hs,.string nm,.int .i64 st] 31)).alloc (.cells #[.int .i64 kd,.int .i64 to,.int .i64 fr,.int .i64 ep,.int .i64 ed,.string kn,.string kt,.string ka,.slice bi lb di,.int .i64 ct,.bool ov,.int .i64 cd,.string tx2,.bool hs2,.string nm2,.int .i64 st2] 31)) w1:=by have h:=hb1;simp at h;exact h
   have hB1:Below w.heap.size w w1:=(hB0 _ _).trans (hx1.mono om_);have ZA:BlkAt w1 w.heap.size [.int .i64 kd,.int .i64 to,.int .i64 fr,.int .i64 ep,.int .i64 ed,.string kn,.string kt,.string ka,.slice ai la ci,.int .i64 ct,.bool ov,.int .i64 cd,.string tx,.bool hs,.string nm,.int .i64 st]:=fun j v h=>(hx1.cell (p:=⟨w.heap.size,j,none⟩) (by show w.heap.size<w.heap.size+2;omega)).trans (by simp [go_sem,h]);have ZB:BlkAt w1 (w.heap.size+1) [.int .i64 kd,.int .i64 to,.int .i64 fr,.int .i64 ep,.int .i64 ed,.string kn,.string kt,.string ka,.slice bi lb di,.int .i64 ct,.bool ov,.int .i64 cd,.string tx2,.bool hs2,.string nm2,.int .i64 st2]:=fun j v h=>(hx1.cell (p:=⟨w.heap.size+1,j,none⟩) (by show w.heap.size+1<w.heap.size+2;omega)).trans (by simp [go_sem,h]);have a9:=ZA 9 _ rfl;have b9:=ZB 9 _ rfl;have a10:=ZA 10 _ rfl;have b10:=ZB 10 _ rfl;have a11:=ZA 11 _ rfl;have b11:=ZB 11 _ rfl;have a12:=ZA 12 _ rfl;have b12:=ZB 12 _ rfl;have a13:=ZA 13 _ rfl;have b13:=ZB 13 _ rfl;have a14:=ZA 14 _ rfl;have b14:=ZB 14 _ rfl;have a15:=ZA 15 _ rfl;have b15:=ZB 15 _ rfl;clear hb1 hx1 ZA ZB;go_wp2
   all_goals go_ret
   all_goals exact ⟨HN.out,hB1⟩
 obtain rfl:=(ba_iff _ _).1 e12;clear e12;rcases (Classical.em (hs=hs2)).symm with e13 | e13
 · have HN:Hid (IsB (Sm30 kd to fr ep ed kn kt ka ct ov cd tx hs nm st kd to fr ep ed kn kt ka ct ov cd tx hs2 nm2 st2 true) (.returned (.bool false))):=isB_no (fun h=>e13 h.2.2.2.2.2.2.2.2.2.2.2.2.2.1)
   go_enter func34,ntmps34
   go_wp2_with fail
   refine (h69 _ (hB0 _ _)).mono ?_;rintro e w1 ⟨rfl,hb1⟩;have hx1:Below (w.heap.size+2) ((w.alloc (.cells #[.int .i64 kd,.int .i64 to,.int .i64 fr,.int .i64 ep,.int .i64 ed,.string kn,.string kt,.string ka,.slice ai la ci,.int .i64 ct,.bool ov,.int .i64 cd,.string tx,.bool hs,.string nm,.int .i64 st] 31)).alloc (.cells #[.int .i64 kd,.int .i64 to,.int .i64 fr,.int .i64 ep,.int .i64 ed,.string kn,.string kt,.string ka,.slice bi lb di,.int .i64 ct,.bool ov,.int .i64 cd,.string tx,.bool hs2,.string nm2,.int .i64 st2] 31)) w1:=by have h:=hb1;simp at h;exact h
   have hB1:Below w.heap.size w w1:=(hB0 _ _).trans (hx1.mono om_);have ZA:BlkAt w1 w.heap.size [.int .i64 kd,.int .i64 to,.int .i64 fr,.int .i64 ep,.int .i64 ed,.string kn,.string kt,.string ka,.slice ai la ci,.int .i64 ct,.bool ov,.int .i64 cd,.string tx,.bool hs,.string nm,.int .i64 st]:=fun j v h=>(hx1.cell (p:=⟨w.heap.size,j,none⟩) (by show w.heap.size<w.heap.size+2;omega)).trans (by simp [go_sem,h]);have ZB:BlkAt w1 (w.heap.size+1) [.int .i64 kd,.int .i64 to,.int .i64 fr,.int .i64 ep,.int .i64 ed,.string kn,.string kt,.string ka,.slice bi lb di,.int .i64 ct,.bool ov,.int .i64 cd,.string tx,.bool hs2,.string nm2,.int .i64 st2]:=fun j v h=>(hx1.cell (p:=⟨w.heap.size+1,j,none⟩) (by show w.heap.size+1<w.heap.size+2;omega)).trans (by simp [go_sem,h]);have a9:=ZA 9 _ rfl;have b9:=ZB 9 _ rfl;have a10:=ZA 10 _ rfl;have b10:=ZB 10 _ rfl;have a11:=ZA 11 _ rfl;have b11:=ZB 11 _ rfl;have a12:=ZA 12 _ rfl;have b12:=ZB 12 _ rfl;have a13:=ZA 13 _ rfl;have b13:=ZB 13 _ rfl;have a14:=ZA 14 _ rfl;have b14:=ZB 14 _ rfl;have a15:=ZA 15 _ rfl;have b15:=ZB 15 _ rfl;clear hb1 hx1 ZA ZB;go_wp2
   all_goals go_ret
   all_goals exact ⟨HN.out,hB1⟩
 obtain rfl:=e13;rcases (Classical.em (nm.toList=nm2.toList)).symm with e14 | e14
 · have HN:Hid (IsB (Sm30 kd to fr ep ed kn kt ka ct ov cd tx hs nm st kd to fr ep ed kn kt ka ct ov cd tx hs nm2 st2 true) (.returned (.bool false))):=isB_no (fun h=>e14 (by rw [h.2.2.2.2.2.2.2.2.2.2.2.2.2.2.1]))
   go_enter func34,ntmps34
   go_wp2_with fail
   refine (h69 _ (hB0 _ _)).mono ?_;rintro e w1 ⟨rfl,hb1⟩;have hx1:Below (w.heap.size+2) ((w.alloc (.cells #[.int .i64 kd,.int .i64 to,.int .i64 fr,.int .i64 ep,.int .i64 ed,.string kn,.string kt,.string ka,.slice ai la ci,.int .i64 ct,.bool ov,.int .i64 cd,.string tx,.bool hs,.string nm,.int .i64 st] 31)).alloc (.cells #[.int .i64 kd,.int .i64 to,.int .i64 fr,.int .i64 ep,.int .i64 ed,.string kn,.string kt,.string ka,.slice bi lb di,.int .i64 ct,.bool ov,.int .i64 cd,.string tx,.bool hs,.string nm2,.int .i64 st2] 31)) w1:=by have h:=hb1;simp at h;exact h
   have hB1:Below w.heap.size w w1:=(hB0 _ _).trans (hx1.mono om_);have ZA:BlkAt w1 w.heap.size [.int .i64 kd,.int .i64 to,.int .i64 fr,.int .i64 ep,.int .i64 ed,.string kn,.string kt,.string ka,.slice ai la ci,.int .i64 ct,.bool ov,.int .i64 cd,.string tx,.bool hs,.string nm,.int .i64 st]:=fun j v h=>(hx1.cell (p:=⟨w.heap.size,j,none⟩) (by show w.heap.size<w.heap.size+2;omega)).trans (by simp [go_sem,h]);have ZB:BlkAt w1 (w.heap.size+1) [.int .i64 kd,.int .i64 to,.int .i64 fr,.int .i64 ep,.int .i64 ed,.string kn,.string kt,.string ka,.slice bi lb di,.int .i64 ct,.bool ov,.int .i64 cd,.string tx,.bool hs,.string nm2,.int .i64 st2]:=fun j v h=>(hx1.cell (p:=⟨w.heap.size+1,j,none⟩) (by show w.heap.size+1<w.heap.size+2;omega)).trans (by simp [go_sem,h]);have a9:=ZA 9 _ rfl;have b9:=ZB 9 _ rfl;have a10:=ZA 10 _ rfl;have b10:=ZB 10 _ rfl;have a11:=ZA 11 _ rfl;have b11:=ZB 11 _ rfl;have a12:=ZA 12 _ rfl;have b12:=ZB 12 _ rfl;have a13:=ZA 13 _ rfl;have b13:=ZB 13 _ rfl;have a14:=ZA 14 _ rfl;have b14:=ZB 14 _ rfl;have a15:=ZA 15 _ rfl;have b15:=ZB 15 _ rfl;clear hb1 hx1 ZA ZB;go_wp2
   all_goals go_ret
   all_goals exact ⟨HN.out,hB1⟩
 obtain rfl:=(ba_iff _ _).1 e14;clear e14;rcases (Classical.em (st=st2)).symm with e15 | e15
 · have HN:Hid (IsB (Sm30 kd to fr ep ed kn kt ka ct ov cd tx hs nm st kd to fr ep ed kn kt ka ct ov cd tx hs nm st2 true) (.returned (.bool false))):=isB_no (fun h=>e15 h.2.2.2.2.2.2.2.2.2.2.2.2.2.2.2)
   go_enter func34,ntmps34
   go_wp2_with fail
   refine (h69 _ (hB0 _ _)).mono ?_;rintro e w1 ⟨rfl,hb1⟩;have hx1:Below (w.heap.size+2) ((w.alloc (.cells #[.int .i64 kd,.int .i64 to,.int .i64 fr,.int .i64 ep,.int .i64 ed,.string kn,.string kt,.string ka,.slice ai la ci,.int .i64 ct,.bool ov,.int .i64 cd,.string tx,.bool hs,.string nm,.int .i64 st] 31)).alloc (.cells #[.int .i64 kd,.int .i64 to,.int .i64 fr,.int .i64 ep,.int .i64 ed,.string kn,.string kt,.string ka,.slice bi lb di,.int .i64 ct,.bool ov,.int .i64 cd,.string tx,.bool hs,.string nm,.int .i64 st2] 31)) w1:=by have h:=hb1;simp at h;exact h
   have hB1:Below w.heap.size w w1:=(hB0 _ _).trans (hx1.mono om_);have ZA:BlkAt w1 w.heap.size [.int .i64 kd,.int .i64 to,.int .i64 fr,.int .i64 ep,.int .i64 ed,.string kn,.string kt,.string ka,.slice ai la ci,.int .i64 ct,.bool ov,.int .i64 cd,.string tx,.bool hs,.string nm,.int .i64 st]:=fun j v h=>(hx1.cell (p:=⟨w.heap.size,j,none⟩) (by show w.heap.size<w.heap.size+2;omega)).trans (by simp [go_sem,h]);have ZB:BlkAt w1 (w.heap.size+1) [.int .i64 kd,.int .i64 to,.int .i64 fr,.int .i64 ep,.int .i64 ed,.string kn,.string kt,.string ka,.slice bi lb di,.int .i64 ct,.bool ov,.int .i64 cd,.string tx,.bool hs,.string nm,.int .i64 st2]:=fun j v h=>(hx1.cell (p:=⟨w.heap.size+1,j,none⟩) (by show w.heap.size+1<w.heap.size+2;omega)).trans (by simp [go_sem,h]);have a9:=ZA 9 _ rfl;have b9:=ZB 9 _ rfl;have a10:=ZA 10 _ rfl;have b10:=ZB 10 _ rfl;have a11:=ZA 11 _ rfl;have b11:=ZB 11 _ rfl;have a12:=ZA 12 _ rfl;have b12:=ZB 12 _ rfl;have a13:=ZA 13 _ rfl;have b13:=ZB 13 _ rfl;have a14:=ZA 14 _ rfl;have b14:=ZB 14 _ rfl;have a15:=ZA 15 _ rfl;have b15:=ZB 15 _ rfl;clear hb1 hx1 ZA ZB;go_wp2
   all_goals go_ret
   all_goals exact ⟨HN.out,hB1⟩
 obtain rfl:=e15;have HY:Hid (IsB (Sm30 kd to fr ep ed kn kt ka ct ov cd tx hs nm st kd to fr ep ed kn kt ka ct ov cd tx hs nm st true) (.returned (.bool true))):=isB_yes (by simp [Sm30]);go_enter func34,ntmps34
 go_wp2_with fail
 refine (h69 _ (hB0 _ _)).mono ?_;rintro e w1 ⟨rfl,hb1⟩;have hx1:Below (w.heap.size+2) ((w.alloc (.cells #[.int .i64 kd,.int .i64 to,.int .i64 fr,.int .i64 ep,.int .i64 ed,.string kn,.string kt,.string ka,.slice ai la ci,.int .i64 ct,.bool ov,.int .i64 cd,.string tx,.bool hs,.string nm,.int .i64 st] 31)).alloc (.cells #[.int .i64 kd,.int .i64 to,.int .i64 fr,.int .i64 ep,.int .i64 ed,.string kn,.string kt,.string ka,.slice bi lb di,.int .i64 ct,.bool ov,.int .i64 cd,.string tx,.bool hs,.string nm,.int .i64 st] 31)) w1:=by have h:=hb1;simp at h;exact h
 have hB1:Below w.heap.size w w1:=(hB0 _ _).trans (hx1.mono om_);have ZA:BlkAt w1 w.heap.size [.int .i64 kd,.int .i64 to,.int .i64 fr,.int .i64 ep,.int .i64 ed,.string kn,.string kt,.string ka,.slice ai la ci,.int .i64 ct,.bool ov,.int .i64 cd,.string tx,.bool hs,.string nm,.int .i64 st]:=fun j v h=>(hx1.cell (p:=⟨w.heap.size,j,none⟩) (by show w.heap.size<w.heap.size+2;omega)).trans (by simp [go_sem,h]);have ZB:BlkAt w1 (w.heap.size+1) [.int .i64 kd,.int .i64 to,.int .i64 fr,.int .i64 ep,.int .i64 ed,.string kn,.string kt,.string ka,.slice bi lb di,.int .i64 ct,.bool ov,.int .i64 cd,.string tx,.bool hs,.string nm,.int .i64 st]:=fun j v h=>(hx1.cell (p:=⟨w.heap.size+1,j,none⟩) (by show w.heap.size+1<w.heap.size+2;omega)).trans (by simp [go_sem,h]);have a9:=ZA 9 _ rfl;have b9:=ZB 9 _ rfl;have a10:=ZA 10 _ rfl;have b10:=ZB 10 _ rfl;have a11:=ZA 11 _ rfl;have b11:=ZB 11 _ rfl;have a12:=ZA 12 _ rfl;have b12:=ZB 12 _ rfl;have a13:=ZA 13 _ rfl;have b13:=ZB 13 _ rfl;have a14:=ZA 14 _ rfl;have b14:=ZB 14 _ rfl;have a15:=ZA 15 _ rfl;have b15:=ZB 15 _ rfl;clear hb1 hx1 ZA ZB;go_wp2;go_ret;exact ⟨HY.out,hB1⟩
end Go.Proofs.YthjhakdpikdoeaaGreatDoor.M
