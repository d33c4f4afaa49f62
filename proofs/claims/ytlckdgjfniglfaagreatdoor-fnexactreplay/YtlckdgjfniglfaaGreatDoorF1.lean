import Derived.Test.YtlckdgjfniglfaaGreatDoorEP3
set_option linter.unusedVariables false
set_option maxHeartbeats 8000000
set_option maxRecDepth 100000
namespace Go.Proofs.YtlckdgjfniglfaaGreatDoor
open Proofs.Tryz
open Go.RowKit
theorem c210 (c:Int) (w:World) (hc:c=0\/c=1\/c=2\/c=3\/c=4\/c=5\/c=7):
 Calls prog 210 #[.int .i64 c] w fun e w'=>e=.returned (.string (ofL [UInt8.ofNat (48+c).toNat]))/\w'=w:=by
 rcases hc with rfl | rfl | rfl | rfl | rfl | rfl | rfl
 all_goals
  go_enter func210,ntmps210;go_wp2;go_ret;exact ⟨rfl,rfl⟩
theorem c199 (c:Int) (w:World) (hc:c=0\/c=1\/c=2\/c=3\/c=4\/c=5\/c=7):
 Calls prog 199 #[.int .i64 c,.int .i64 10] w fun e w'=>e=.returned (.string (ofL [UInt8.ofNat (48+c).toNat]))/\w'=w:=by
 have h1:0<=c:=om_;have h2:c<100:=om_;have H:=c210 c w hc;clear hc;go_enter func199,ntmps199
 go_wp2_with (go_at_call 210;refine H.mono ?_;rintro e w' ⟨rfl,rfl⟩)
 go_ret;exact ⟨rfl,rfl⟩
theorem c175 (c:Int) (w:World) (hc:c=0\/c=1\/c=2\/c=3\/c=4\/c=5\/c=7):
 Calls prog 175 #[.int .i64 c] w fun e w'=>e=.returned (.string (ofL [UInt8.ofNat (48+c).toNat]))/\w'=w:=by
 have H:=c199 c w hc;go_enter func175,ntmps175
 go_wp2_with (go_at_call 199;refine H.mono ?_;rintro e w' ⟨rfl,rfl⟩)
 go_ret;exact ⟨rfl,rfl⟩
theorem c155 (c:Int) (w:World) (hc:c=0\/c=1\/c=2\/c=3\/c=4\/c=5\/c=7):
 Calls prog 155 #[.int .i64 c] w fun e w'=>e=.returned (.string (ofL [UInt8.ofNat (48+c).toNat]))/\w'=w:=by
 have H:=c175 c w hc;go_enter func155,ntmps155
 go_wp2_with (go_at_call 175;refine H.mono ?_;rintro e w' ⟨rfl,rfl⟩)
 go_ret;exact ⟨rfl,rfl⟩
theorem c130 (c:Int) (s:ByteArray) (w:World) (hs:s.size<=1048700):
 Calls prog 130 #[.agg #[.int .i64 c,.string s]] w fun e w'=>e=.returned (.string (ofL (formR c s.data.toList)))/\Below w.heap.size w w':=by
 go_enter func130,ntmps130
 go_wp2_with fail
 refine (c77 _ _ _ hs).mono ?_;rintro e w1 ⟨rfl,hb1⟩;have hB1:=((Below.refl w.heap.size w).alloc lr_ (.cells #[.int .i64 c,.string s] 45)).trans (hb1.mono sm_);have g10:w1.cell? ⟨w.heap.size,0,none⟩=some (.int .i64 c):=by rw [hb1.cell sm_];simp
 have g11:w1.cell? ⟨w.heap.size,1,none⟩=some (.string s):=by rw [hb1.cell sm_];simp
 cases hv:vr c s.data.toList
 · have hF:=form_no hv
   go_wp2;go_ret;exact ⟨hF,hB1⟩
 · have hc:=vr_code hv
   have hF:Hid (ofL (formR c s.data.toList)=ofL [UInt8.ofNat (48+c).toNat]++⟨#[58]⟩++s):=form_yes hv;have hz:(ofL [UInt8.ofNat (48+c).toNat]).size=1:=rfl;clear hv
   go_wp2_with fail
   go_region_with (go_at_call 155;refine (c155 _ _ hc).mono ?_;rintro e w' ⟨rfl,rfl⟩)
   all_goals go_wp2
   all_goals go_ret
   all_goals exact ⟨by rw [hF.out];rfl,by first | exact hB1 | exact hB1.drew⟩
end Go.Proofs.YtlckdgjfniglfaaGreatDoor
