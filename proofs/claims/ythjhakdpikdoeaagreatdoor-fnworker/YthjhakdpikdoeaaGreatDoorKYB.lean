import Derived.Test.YthjhakdpikdoeaaGreatDoorKY7
import Derived.Test.YthjhakdpikdoeaaGreatDoorKYA
set_option linter.unusedVariables false
set_option maxHeartbeats 8000000
set_option maxRecDepth 100000
namespace Go.Proofs.YthjhakdpikdoeaaGreatDoor.M
open Proofs.Tryz
open Go.RowKit
theorem sm59_none (x:G16):Sm59 x.to x.fr x.ep x.ed x.km.nm x.km.tl x.km.ar x.ct x.tn.over x.tn.cd x.tn.tx x.tn.has x.tn.nm x.tn.st 0 0 0 0 ⟨#[]⟩ ⟨#[]⟩ ⟨#[]⟩ 0 false 0 ⟨#[]⟩ false ⟨#[]⟩ 0 x.ls.length 0↔(x.to=0/\x.fr=0/\x.ep=0/\x.ed=0/\x.km.nm=⟨#[]⟩/\x.km.tl=⟨#[]⟩/\x.km.ar=⟨#[]⟩/\x.ls.length=0/\x.ct=0/\x.tn.over=false/\x.tn.cd=0/\x.tn.tx=⟨#[]⟩/\x.tn.has=false/\x.tn.nm=⟨#[]⟩/\x.tn.st=0):=Iff.rfl
theorem c31 (x:G16) (ai:Option Addr) (ci:Nat) (w:World) (hl:x.ls.length<=1048576):
 Calls prog 31 #[.agg (lgA x ai ci)] w fun e w'=>IsB (NoOffer x) e/\Below w.heap.size w w':=by
 have hB0:∀ o,Below w.heap.size w (w.alloc o):=fun o=>bA;obtain ⟨kd,to,fr,ep,ed,km,ls,ct,tn⟩:=x;rcases (Classical.em (kd=0)).symm with e1 | e1
 · have HN:Hid (IsB (NoOffer ⟨kd,to,fr,ep,ed,km,ls,ct,tn⟩) (.returned (.bool false))):=isB_no (fun h=>e1 h.1)
   go_enter func31,ntmps31;go_wp2
   all_goals go_ret
   all_goals exact ⟨HN.out,hB0 _⟩
 obtain rfl:=e1;have h59:=fun u=>c59 0 to fr ep ed ct tn.cd tn.st km.nm km.tl km.ar tn.tx tn.nm tn.over tn.has 0 0 0 0 0 0 0 0 ⟨#[]⟩ ⟨#[]⟩ ⟨#[]⟩ ⟨#[]⟩ ⟨#[]⟩ false false ai none ls.length 0 ci 0 u hl (Nat.zero_le _);go_enter func31,ntmps31
 go_wp2_with fail
 refine (h59 _).mono ?_;rintro e w1 ⟨⟨r,rfl,hr⟩,hb1⟩;have hB1:Below w.heap.size w w1:=(hB0 _).trans (hb1.mono sm_);have HR:Hid (r=true↔NoOffer ⟨0,to,fr,ep,ed,km,ls,ct,tn⟩):=hr.trans ⟨fun h=>⟨rfl,(sm59_none ⟨0,to,fr,ep,ed,km,ls,ct,tn⟩).1 h⟩,fun h=>(sm59_none ⟨0,to,fr,ep,ed,km,ls,ct,tn⟩).2 h.2⟩;clear hr hb1 h59;go_wp2;go_ret;exact ⟨⟨r,rfl,HR.out⟩,hB1⟩
theorem offer_ne (x:G16):(ofL (offerL x)).toList.isEmpty=false:=by
 have:(ofL (offerL x)).toList=offerL x:=by rw [ByteArray.toList_eq];rfl
 rw [this];rfl
theorem c11 (x:W19) (ai:Option Addr) (ci:Nat) (w:World) (hs:x.of.le 1048576) (hat:LksAt w ai x.of.ls):
 Calls prog 11 #[.agg (lhA x.no x.up x.has x.of ai ci)] w fun e w'=>IsB (WkOk x) e/\Below w.heap.size w w':=by
 have hB0:∀ o,Below w.heap.size w (w.alloc o):=fun o=>bA;have HA:Hid (LksAt w ai x.of.ls):=hat;have hl:x.of.ls.length<=1048576:=hs.2.1.1;have HS:Hid (x.of.le 1048576):=hs;clear hat hs;obtain ⟨no,up,has,⟨kd,to,fr,ep,ed,km,ls,ct,tn⟩⟩:=x;cases h1:decide (1<=no/\no<=4)
 · have HN:Hid (IsB (WkOk ⟨no,up,has,⟨kd,to,fr,ep,ed,km,ls,ct,tn⟩⟩) (.returned (.bool false))):=isB_no (fun h=>of_decide_eq_false h1 h.1)
   go_enter func11,ntmps11
   go_wp2_with fail
   refine (c30 no 1 4 _).mono ?_;rintro e w1 ⟨rfl,hw⟩;obtain rfl:=hw.symm;rw [h1];go_wp2;go_ret;exact ⟨HN.out,hB0 _⟩
 cases has
 · have HE:Hid (WkOk ⟨no,up,false,⟨kd,to,fr,ep,ed,km,ls,ct,tn⟩⟩↔NoOffer ⟨kd,to,fr,ep,ed,km,ls,ct,tn⟩):=by
    constructor
    · rintro ⟨_,⟨h,_⟩ | ⟨_,h⟩⟩
      · cases h
      exact h
    exact fun h=>⟨of_decide_eq_true h1,.inr ⟨rfl,h⟩⟩
   go_enter func11,ntmps11
   go_wp2_with fail
   refine (c30 no 1 4 _).mono ?_;rintro e w1 ⟨rfl,hw⟩;obtain rfl:=hw.symm;rw [h1]
   go_wp2_with fail
   refine (c31 ⟨kd,to,fr,ep,ed,km,ls,ct,tn⟩ ai ci _ hl).mono ?_;rintro e w2 ⟨⟨r,rfl,hr⟩,hb2⟩;have hB2:Below w.heap.size w w2:=(hB0 _).trans (hb2.mono sm_);have HR:Hid (r=true↔WkOk ⟨no,up,false,⟨kd,to,fr,ep,ed,km,ls,ct,tn⟩⟩):=hr.trans HE.out.symm;clear hr hb2;go_wp2;go_ret;exact ⟨⟨r,rfl,HR.out⟩,hB2⟩
 cases up
 · have HN:Hid (IsB (WkOk ⟨no,false,true,⟨kd,to,fr,ep,ed,km,ls,ct,tn⟩⟩) (.returned (.bool false))):=isB_no (fun h=>by
    rcases h.2 with ⟨_,h,_⟩ | ⟨h,_⟩
    · cases h
    cases h)
   go_enter func11,ntmps11
   go_wp2_with fail
   refine (c30 no 1 4 _).mono ?_;rintro e w1 ⟨rfl,hw⟩;obtain rfl:=hw.symm;rw [h1];go_wp2;go_ret;exact ⟨HN.out,hB0 _⟩
 have HE:Hid (WkOk ⟨no,true,true,⟨kd,to,fr,ep,ed,km,ls,ct,tn⟩⟩↔OfferTo no ⟨kd,to,fr,ep,ed,km,ls,ct,tn⟩):=by
  constructor
  · rintro ⟨_,⟨_,_,h⟩ | ⟨h,_⟩⟩
    · exact h
    cases h
  exact fun h=>⟨of_decide_eq_true h1,.inl ⟨rfl,rfl,h⟩⟩
 rcases (Classical.em (kd=1)).symm with e1 | e1
 · have HN:Hid (IsB (WkOk ⟨no,true,true,⟨kd,to,fr,ep,ed,km,ls,ct,tn⟩⟩) (.returned (.bool false))):=isB_no (fun h=>e1 (HE.out.1 h).1)
   go_enter func11,ntmps11
   go_wp2_with fail
   refine (c30 no 1 4 _).mono ?_;rintro e w1 ⟨rfl,hw⟩;obtain rfl:=hw.symm;rw [h1];go_wp2
   all_goals go_ret
   all_goals exact ⟨HN.out,hB0 _⟩
 obtain rfl:=e1;rcases (Classical.em (to=no)).symm with e2 | e2
 · have HN:Hid (IsB (WkOk ⟨no,true,true,⟨1,to,fr,ep,ed,km,ls,ct,tn⟩⟩) (.returned (.bool false))):=isB_no (fun h=>e2 (HE.out.1 h).2.1)
   go_enter func11,ntmps11
   go_wp2_with fail
   refine (c30 no 1 4 _).mono ?_;rintro e w1 ⟨rfl,hw⟩;obtain rfl:=hw.symm;rw [h1];go_wp2
   all_goals go_ret
   all_goals exact ⟨HN.out,hB0 _⟩
 obtain rfl:=e2;go_enter func11,ntmps11
 go_wp2_with fail
 refine (c30 to 1 4 _).mono ?_;rintro e w1 ⟨rfl,hw⟩;obtain rfl:=hw.symm;rw [h1]
 go_wp2_with fail
 refine (c27 ⟨1,to,fr,ep,ed,km,ls,ct,tn⟩ ai ci _ HS.out (lks_below HA.out (hB0 _))).mono ?_;rintro e w2 ⟨⟨s,rfl,hr⟩,hb2⟩;have hB2:Below w.heap.size w w2:=(hB0 _).trans (hb2.mono sm_);clear hb2;rcases hr with ⟨hok,rfl⟩ | ⟨hno,rfl⟩
 · have HY:Hid (IsB (WkOk ⟨to,true,true,⟨1,to,fr,ep,ed,km,ls,ct,tn⟩⟩) (.returned (.bool true))):=isB_yes (HE.out.2 ⟨rfl,rfl,hok⟩)
   have hne:=offer_ne ⟨1,to,fr,ep,ed,km,ls,ct,tn⟩;generalize ofL (offerL ⟨1,to,fr,ep,ed,km,ls,ct,tn⟩)=s at*;have hne2:¬ s.toList=[]:=fun h=>by rw [h] at hne;cases hne
   clear hok;go_wp2
   all_goals go_ret
   all_goals exact ⟨HY.out,hB2⟩
 have HN:Hid (IsB (WkOk ⟨to,true,true,⟨1,to,fr,ep,ed,km,ls,ct,tn⟩⟩) (.returned (.bool false))):=isB_no (fun h=>hno (HE.out.1 h).2.2);clear hno;go_wp2
 all_goals go_ret
 all_goals exact ⟨HN.out,hB2⟩
end Go.Proofs.YthjhakdpikdoeaaGreatDoor.M
