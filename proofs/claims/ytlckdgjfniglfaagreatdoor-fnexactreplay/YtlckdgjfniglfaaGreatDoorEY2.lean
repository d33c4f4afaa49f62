import Derived.Test.YtlckdgjfniglfaaGreatDoorEZA
set_option linter.unusedVariables false
set_option maxRecDepth 100000
set_option maxHeartbeats 8000000
namespace Go.Proofs.YtlckdgjfniglfaaGreatDoor
open Proofs.Tryz
open Go.RowKit
def LkOk (x:L4):Prop:=nameOk x.nm.data.toList=true/\((x.has=true/\((x.cd=0/\x.tx=⟨#[]⟩)\/(x.cd=4/\x.tx=x.nm)))\/(x.has=false/\vr x.cd x.tx.data.toList=true))
def IsB (P:Prop) (e:Ending):Prop:=∃ r,e=.returned (.bool r)/\(r=true↔P)
theorem isB_no {P:Prop} (h:¬ P):IsB P (.returned (.bool false)):=⟨false,rfl,⟨fun h=>absurd h Bool.false_ne_true,fun k=>absurd k h⟩⟩
theorem isB_yes {P:Prop} (h:P):IsB P (.returned (.bool true)):=⟨true,rfl,⟨fun _=>h,fun _=>rfl⟩⟩
theorem ba_iff (x y:ByteArray):x.toList=y.toList↔x=y:=⟨fun h=>by
 rw [ByteArray.toList_eq,ByteArray.toList_eq] at h;exact ByteArray.ext (Array.toList_inj.1 h),fun h=>by rw [h]⟩
theorem ba_nil (x:ByteArray):x.toList=[]↔x=⟨#[]⟩:=by
 rw [ByteArray.toList_eq];exact ⟨fun h=>ByteArray.ext (Array.toList_inj.1 h),fun h=>by rw [h]⟩
theorem lk_name {x:L4} (h:nameOk x.nm.data.toList=false):¬ LkOk x:=fun k=>absurd (k.1.symm.trans h) dc_
theorem lk_ask {x:L4} (hn:nameOk x.nm.data.toList=true) (hh:x.has=false):LkOk x↔vr x.cd x.tx.data.toList=true:=by
 constructor
 · rintro ⟨_,⟨h,_⟩ | ⟨_,h⟩⟩
   · rw [hh] at h;cases h
   · exact h
 · exact fun h=>⟨hn,.inr ⟨hh,h⟩⟩
theorem lk_has {x:L4} (hn:nameOk x.nm.data.toList=true) (hh:x.has=true):LkOk x↔((x.cd=0/\x.tx.toList=[])\/(x.cd=4/\x.tx.toList=x.nm.toList)):=by
 rw [ba_nil,ba_iff];constructor
 · rintro ⟨_,⟨_,h⟩ | ⟨h,_⟩⟩
   · exact h
   · rw [hh] at h;cases h
 · exact fun h=>⟨hn,.inl ⟨hh,h⟩⟩
theorem c141 (x:L4) (w:World) (hs:x.le 1048600):
 Calls prog 141 #[.agg #[.bool x.has,.string x.nm,.int .i64 x.cd,.string x.tx]] w fun e w'=>IsB (LkOk x) e/\Below w.heap.size w w':=by
 obtain ⟨s1,s2⟩:=hs;have hB0:∀ o,Below w.heap.size w (w.alloc o):=fun o=>bA_;cases hn:nameOk x.nm.data.toList
 · have HN:Hid (IsB (LkOk x) (.returned (.bool false))):=isB_no (lk_name hn)
   go_enter func141,ntmps141
   go_wp2_with fail
   refine (c62 x.nm _ om_).mono ?_;rintro e w1 ⟨rfl,hw⟩;obtain rfl:=hw.symm;rw [hn];go_wp2;go_ret;exact ⟨HN.out,hB0 _⟩
 · cases hh:x.has
   · have HE:Hid (LkOk x↔vr x.cd x.tx.data.toList=true):=lk_ask hn hh
     go_enter func141,ntmps141
     go_wp2_with fail
     refine (c62 x.nm _ om_).mono ?_;rintro e w1 ⟨rfl,hw⟩;obtain rfl:=hw.symm;rw [hn]
     go_wp2_with fail
     refine (c107 x.cd x.tx _ om_).mono ?_;rintro e w2 ⟨rfl,hb2⟩;have hB2:Below w.heap.size w w2:=(hB0 _).trans (hb2.mono sm_);go_wp2;go_ret;exact ⟨⟨_,rfl,HE.out.symm⟩,hB2⟩
   · have HE:Hid (LkOk x↔((x.cd=0/\x.tx.toList=[])\/(x.cd=4/\x.tx.toList=x.nm.toList))):=lk_has hn hh
     skip
     all_goals
      go_enter func141,ntmps141
      go_wp2_with fail
      refine (c62 x.nm _ om_).mono ?_;rintro e w1 ⟨rfl,hw⟩;obtain rfl:=hw.symm;rw [hn];go_wp2
      all_goals go_ret
      all_goals first
       | exact ⟨isB_yes (HE.out.2 (by simp [*])),hB0 _⟩
       | exact ⟨isB_no (fun h=>by have:=HE.out.1 h;simp [*] at this),hB0 _⟩
       | exact ⟨isB_yes (HE.out.2 (by simp [*])),(hB0 _).alloc sm_ _⟩
       | exact ⟨isB_no (fun h=>by have:=HE.out.1 h;simp [*] at this),(hB0 _).alloc sm_ _⟩
theorem c128 (x:L4) (w:World) (hs:x.le 1048600):
 Calls prog 128 #[.agg #[.bool x.has,.string x.nm,.int .i64 x.cd,.string x.tx]] w fun e w'=>IsB (LkOk x) e/\Below w.heap.size w w':=by
 obtain ⟨s1,s2⟩:=hs;have hB0:∀ o,Below w.heap.size w (w.alloc o):=fun o=>bA_;cases hh:x.has
 · cases hn:nameOk x.nm.data.toList
   · have HN:Hid (IsB (LkOk x) (.returned (.bool false))):=isB_no (lk_name hn)
     go_enter func128,ntmps128
     go_wp2_with fail
     refine (c112 x.nm _ om_).mono ?_;rintro e w1 ⟨rfl,hw⟩;obtain rfl:=hw.symm;rw [hn];go_wp2;go_ret;exact ⟨HN.out,hB0 _⟩
   · have HE:Hid (LkOk x↔vr x.cd x.tx.data.toList=true):=lk_ask hn hh
     go_enter func128,ntmps128
     go_wp2_with fail
     refine (c112 x.nm _ om_).mono ?_;rintro e w1 ⟨rfl,hw⟩;obtain rfl:=hw.symm;rw [hn]
     go_wp2_with fail
     refine (c77 x.cd x.tx _ om_).mono ?_;rintro e w2 ⟨rfl,hb2⟩;have hB2:Below w.heap.size w w2:=(hB0 _).trans (hb2.mono sm_);go_wp2;go_ret;exact ⟨⟨_,rfl,HE.out.symm⟩,hB2⟩
 · cases hn:nameOk x.nm.data.toList
   · have HN:Hid (IsB (LkOk x) (.returned (.bool false))):=isB_no (lk_name hn)
     go_enter func128,ntmps128
     go_wp2_with fail
     refine (c112 x.nm _ om_).mono ?_;rintro e w1 ⟨rfl,hw⟩;obtain rfl:=hw.symm;rw [hn];go_wp2;go_ret;exact ⟨HN.out,(hB0 _).alloc sm_ _⟩
   · have HE:Hid (LkOk x↔((x.cd=0/\x.tx.toList=[])\/(x.cd=4/\x.tx.toList=x.nm.toList))):=lk_has hn hh
     skip
     all_goals
      go_enter func128,ntmps128
      go_wp2_with fail
      refine (c112 x.nm _ om_).mono ?_;rintro e w1 ⟨rfl,hw⟩;obtain rfl:=hw.symm;rw [hn];go_wp2
      all_goals go_ret
      all_goals first
       | exact ⟨isB_yes (HE.out.2 (by simp [*])),(hB0 _).alloc sm_ _⟩
       | exact ⟨isB_no (fun h=>by have:=HE.out.1 h;simp [*] at this),(hB0 _).alloc sm_ _⟩
       | exact ⟨isB_yes (HE.out.2 (by simp [*])),((hB0 _).alloc sm_ _).alloc so_ _⟩
       | exact ⟨isB_no (fun h=>by have:=HE.out.1 h;simp [*] at this),((hB0 _).alloc sm_ _).alloc so_ _⟩
end Go.Proofs.YtlckdgjfniglfaaGreatDoor
