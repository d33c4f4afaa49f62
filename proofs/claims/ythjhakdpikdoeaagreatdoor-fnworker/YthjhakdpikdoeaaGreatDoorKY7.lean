import Derived.Test.YthjhakdpikdoeaaGreatDoorKZC
import Derived.Test.YthjhakdpikdoeaaGreatDoorKY6
set_option linter.unusedVariables false
set_option maxHeartbeats 8000000
set_option maxRecDepth 100000
namespace Go.Proofs.YthjhakdpikdoeaaGreatDoor.M
open Proofs.Tryz
open Go.RowKit
theorem ix_way (u:World):(Instr.index 138 (.agg #[.string ⟨#[]⟩,.nilFunc,.nilFunc,.nilFunc,.string ⟨#[111,102,102,101,114]⟩,.func (.func 104) #[] #[],.func (.func 105) #[] #[],.func (.func 106) #[] #[],.string ⟨#[116,117,114,110]⟩,.func (.func 107) #[] #[],.func (.func 108) #[] #[],.func (.func 109) #[] #[],.string ⟨#[104,101,114,101]⟩,.func (.func 110) #[] #[],.func (.func 111) #[] #[],.func (.func 112) #[] #[]]) (.int .i64 1)).run prog u=.ok (.agg #[.string ⟨#[111,102,102,101,114]⟩,.func (.func 104) #[] #[],.func (.func 105) #[] #[],.func (.func 106) #[] #[]]) u:=kr_
theorem fd_way (u:World):(Instr.field 137 (.agg #[.string ⟨#[111,102,102,101,114]⟩,.func (.func 104) #[] #[],.func (.func 105) #[] #[],.func (.func 106) #[] #[]]) 1).run prog u=.ok (.func (.func 104) #[] #[]) u:=kr_
theorem c67 (x:G16) (ai:Option Addr) (ci:Nat) (w:World) (hs:x.le 1048576) (hat:LksAt w ai x.ls):
 Calls prog 67 #[.agg (ljA 1 x ai ci)] w fun e w'=>IsB (OfferOk x) e/\Below w.heap.size w w':=by
 have HA:Hid (LksAt w ai x.ls):=hat;clear hat;have hIx:=ix_way;have hFd:=fd_way;go_enter func67,ntmps67
 go_wp2_with fail
 have hBV:Below w.heap.size w (w.alloc (.cells (ljA 1 x ai ci) 31)):=bA;have hzV:w.heap.size<(w.alloc (.cells (ljA 1 x ai ci) 31)).heap.size:=sm_;have ZA:=blk_new w (ljL 1 x ai ci) 31;have ZA:BlkAt (w.alloc (.cells (ljA 1 x ai ci) 31)) w.heap.size (ljL 1 x ai ci):=ZA;have a0:=ZA 0 _ rfl;have a1:=ZA 1 _ rfl;have a2:=ZA 2 _ rfl;have a3:=ZA 3 _ rfl;have a4:=ZA 4 _ rfl;have a5:=ZA 5 _ rfl;have a6:=ZA 6 _ rfl;have a7:=ZA 7 _ rfl;have a8:=ZA 8 _ rfl;have a9:=ZA 9 _ rfl;have a10:=ZA 10 _ rfl;have a11:=ZA 11 _ rfl;have a12:=ZA 12 _ rfl;have a13:=ZA 13 _ rfl;have a14:=ZA 14 _ rfl;have a15:=ZA 15 _ rfl;generalize (w.alloc (.cells (ljA 1 x ai ci) 31))=V at*;clear ZA;refine wp_region_held_drew (S:=(fun u=>u.cell? ⟨w.heap.size,0,none⟩=some (.int .i64 1)/\u.cell? ⟨w.heap.size,1,none⟩=some (.int .i64 x.to)/\u.cell? ⟨w.heap.size,2,none⟩=some (.int .i64 x.fr)/\u.cell? ⟨w.heap.size,3,none⟩=some (.int .i64 x.ep)/\u.cell? ⟨w.heap.size,4,none⟩=some (.int .i64 x.ed)/\u.cell? ⟨w.heap.size,5,none⟩=some (.string x.km.nm)/\u.cell? ⟨w.heap.size,6,none⟩=some (.string x.km.tl)/\u.cell? ⟨w.heap.size,7,none⟩=some (.string x.km.ar)/\u.cell? ⟨w.heap.size,8,none⟩=some (.slice ai x.ls.length ci)/\u.cell? ⟨w.heap.size,9,none⟩=some (.int .i64 x.ct)/\u.cell? ⟨w.heap.size,10,none⟩=some (.bool x.tn.over)/\u.cell? ⟨w.heap.size,11,none⟩=some (.int .i64 x.tn.cd)/\u.cell? ⟨w.heap.size,12,none⟩=some (.string x.tn.tx)/\u.cell? ⟨w.heap.size,13,none⟩=some (.bool x.tn.has)/\u.cell? ⟨w.heap.size,14,none⟩=some (.string x.tn.nm)/\u.cell? ⟨w.heap.size,15,none⟩=some (.int .i64 x.tn.st))) kr_ ?_ fun hHeld=>?_
 · ((try dsimp only);go_keep)
 refine tq 0 hHeld ?_
 try simp only [qq]
 refine tq 1 hHeld ?_
 try simp only [qq]
 refine tq 2 hHeld ?_
 try simp only [qq]
 refine tq 3 hHeld ?_
 try simp only [qq]
 refine tq 4 hHeld ?_
 try simp only [qq]
 refine tq 5 hHeld ?_
 try simp only [qq]
 refine tq 6 hHeld ?_
 try simp only [qq]
 refine tq 7 hHeld ?_
 try simp only [qq]
 refine tq 8 hHeld ?_
 try simp only [qq]
 refine tq 10 hHeld ?_
 try simp only [qq]
 refine tq 11 hHeld ?_
 try simp only [qq]
 refine tq 14 hHeld ?_
 try simp only [qq]
 refine rq 9 fun K hK=>?_;go_simp;refine (c91 _).mono ?_;rintro e w1 ⟨rfl,hb1⟩;have HB1:Hid (Below V.heap.size V w1):=((Below.refl _ _).drew).trans hb1;have b0:=(HB1.out.cell (p:=⟨w.heap.size,0,none⟩) (by exact hzV)).trans a0;have b1:=(HB1.out.cell (p:=⟨w.heap.size,1,none⟩) (by exact hzV)).trans a1;have b2:=(HB1.out.cell (p:=⟨w.heap.size,2,none⟩) (by exact hzV)).trans a2;have b3:=(HB1.out.cell (p:=⟨w.heap.size,3,none⟩) (by exact hzV)).trans a3;have b4:=(HB1.out.cell (p:=⟨w.heap.size,4,none⟩) (by exact hzV)).trans a4;have b5:=(HB1.out.cell (p:=⟨w.heap.size,5,none⟩) (by exact hzV)).trans a5;have b6:=(HB1.out.cell (p:=⟨w.heap.size,6,none⟩) (by exact hzV)).trans a6;have b7:=(HB1.out.cell (p:=⟨w.heap.size,7,none⟩) (by exact hzV)).trans a7;have b8:=(HB1.out.cell (p:=⟨w.heap.size,8,none⟩) (by exact hzV)).trans a8;have b9:=(HB1.out.cell (p:=⟨w.heap.size,9,none⟩) (by exact hzV)).trans a9;have b10:=(HB1.out.cell (p:=⟨w.heap.size,10,none⟩) (by exact hzV)).trans a10;have b11:=(HB1.out.cell (p:=⟨w.heap.size,11,none⟩) (by exact hzV)).trans a11;have b12:=(HB1.out.cell (p:=⟨w.heap.size,12,none⟩) (by exact hzV)).trans a12;have b13:=(HB1.out.cell (p:=⟨w.heap.size,13,none⟩) (by exact hzV)).trans a13;have b14:=(HB1.out.cell (p:=⟨w.heap.size,14,none⟩) (by exact hzV)).trans a14;have b15:=(HB1.out.cell (p:=⟨w.heap.size,15,none⟩) (by exact hzV)).trans a15;clear hb1
 go_wp2_with fail
 clear hHeld;refine hK.out _ _ ?_ fun hHeld=>?_
 · ((try dsimp only);go_keep)
 clear hK K
 try simp only [qq]
 refine tq 12 hHeld ?_
 try simp only [qq]
 refine tq 13 hHeld ?_
 try simp only [qq]
 refine rq 15 fun K hK=>?_;go_simp;refine (c104 x ai ci w1 hs (lks_below HA.out (bT hBV HB1.out))).mono ?_;rintro e w2 ⟨⟨r,rfl,hr⟩,hb2⟩;have HR:Hid (r=true↔OfferOk x):=hr;have HB2:Hid (Below w1.heap.size w1 w2):=hb2;have hzw:w.heap.size<w1.heap.size:=Nat.lt_of_lt_of_le hzV HB1.out.size;have d0:=(HB2.out.cell (p:=⟨w.heap.size,0,none⟩) (by exact hzw)).trans b0;have d1:=(HB2.out.cell (p:=⟨w.heap.size,1,none⟩) (by exact hzw)).trans b1;have d2:=(HB2.out.cell (p:=⟨w.heap.size,2,none⟩) (by exact hzw)).trans b2;have d3:=(HB2.out.cell (p:=⟨w.heap.size,3,none⟩) (by exact hzw)).trans b3;have d4:=(HB2.out.cell (p:=⟨w.heap.size,4,none⟩) (by exact hzw)).trans b4;have d5:=(HB2.out.cell (p:=⟨w.heap.size,5,none⟩) (by exact hzw)).trans b5;have d6:=(HB2.out.cell (p:=⟨w.heap.size,6,none⟩) (by exact hzw)).trans b6;have d7:=(HB2.out.cell (p:=⟨w.heap.size,7,none⟩) (by exact hzw)).trans b7;have d8:=(HB2.out.cell (p:=⟨w.heap.size,8,none⟩) (by exact hzw)).trans b8;have d9:=(HB2.out.cell (p:=⟨w.heap.size,9,none⟩) (by exact hzw)).trans b9;have d10:=(HB2.out.cell (p:=⟨w.heap.size,10,none⟩) (by exact hzw)).trans b10;have d11:=(HB2.out.cell (p:=⟨w.heap.size,11,none⟩) (by exact hzw)).trans b11;have d12:=(HB2.out.cell (p:=⟨w.heap.size,12,none⟩) (by exact hzw)).trans b12;have d13:=(HB2.out.cell (p:=⟨w.heap.size,13,none⟩) (by exact hzw)).trans b13;have d14:=(HB2.out.cell (p:=⟨w.heap.size,14,none⟩) (by exact hzw)).trans b14;have d15:=(HB2.out.cell (p:=⟨w.heap.size,15,none⟩) (by exact hzw)).trans b15;clear hr hb2
 go_wp2_with fail
 clear hHeld;refine hK.out _ _ ?_ fun hHeld=>?_
 · ((try dsimp only);go_keep)
 clear hK K
 try simp only [qq]
 refine tq 16 hHeld ?_
 try simp only [qq]
 refine tq 17 hHeld ?_
 try simp only [qq]
 refine wpAnyH_done kr_ ?_ _;have hB2:Below w.heap.size w w2:=(bT hBV HB1.out).trans (HB2.out.mono (bT hBV HB1.out).size);clear hHeld;go_wp2;go_ret;exact ⟨⟨r,rfl,HR.out⟩,hB2⟩
def OfferTo (n:Int) (x:G16):Prop:=x.kd=1/\x.to=n/\OfferOk x
theorem c33 (n:Int) (x:G16) (ai:Option Addr) (ci:Nat) (w:World) (hs:x.le 1048576) (hat:LksAt w ai x.ls):
 Calls prog 33 #[.int .i64 n,.agg (lgA x ai ci)] w fun e w'=>IsB (OfferTo n x) e/\Below w.heap.size w w':=by
 have hB0:∀ o,Below w.heap.size w (w.alloc o):=fun o=>bA;obtain ⟨kd,to,fr,ep,ed,km,ls,ct,tn⟩:=x;rcases (Classical.em (kd=1)).symm with e1 | e1
 · have HN:Hid (IsB (OfferTo n ⟨kd,to,fr,ep,ed,km,ls,ct,tn⟩) (.returned (.bool false))):=isB_no (fun h=>e1 h.1)
   clear hat hs;go_enter func33,ntmps33;go_wp2
   all_goals go_ret
   all_goals exact ⟨HN.out,hB0 _⟩
 obtain rfl:=e1;rcases (Classical.em (to=n)).symm with e2 | e2
 · have HN:Hid (IsB (OfferTo n ⟨1,to,fr,ep,ed,km,ls,ct,tn⟩) (.returned (.bool false))):=isB_no (fun h=>e2 h.2.1)
   clear hat hs;go_enter func33,ntmps33;go_wp2
   all_goals go_ret
   all_goals exact ⟨HN.out,hB0 _⟩
 obtain rfl:=e2;have h38:=fun u (hb:Below w.heap.size w u)=>c67 ⟨1,to,fr,ep,ed,km,ls,ct,tn⟩ ai ci u hs (lks_below hat hb);clear hat hs;go_enter func33,ntmps33
 go_wp2_with fail
 refine (h38 _ (hB0 _)).mono ?_;rintro e w1 ⟨⟨r,rfl,hr⟩,hb1⟩;have hB1:Below w.heap.size w w1:=(hB0 _).trans (hb1.mono sm_);have HE:Hid (r=true↔OfferTo to ⟨1,to,fr,ep,ed,km,ls,ct,tn⟩):=⟨fun h=>⟨rfl,rfl,hr.1 h⟩,fun h=>hr.2 h.2.2⟩;clear hr h38 hb1;go_wp2;go_ret;exact ⟨⟨r,rfl,HE.out⟩,hB1⟩
def NoOffer (x:G16):Prop:=x.kd=0/\x.to=0/\x.fr=0/\x.ep=0/\x.ed=0/\x.km.nm=⟨#[]⟩/\x.km.tl=⟨#[]⟩/\x.km.ar=⟨#[]⟩/\x.ls.length=0/\x.ct=0/\x.tn.over=false/\x.tn.cd=0/\x.tn.tx=⟨#[]⟩/\x.tn.has=false/\x.tn.nm=⟨#[]⟩/\x.tn.st=0
def WkOk (x:W19):Prop:=(1<=x.no/\x.no<=4)/\((x.has=true/\x.up=true/\OfferTo x.no x.of)\/(x.has=false/\NoOffer x.of))
theorem sm_none (x:G16):Sm30 x.kd x.to x.fr x.ep x.ed x.km.nm x.km.tl x.km.ar x.ct x.tn.over x.tn.cd x.tn.tx x.tn.has x.tn.nm x.tn.st 0 0 0 0 0 ⟨#[]⟩ ⟨#[]⟩ ⟨#[]⟩ 0 false 0 ⟨#[]⟩ false ⟨#[]⟩ 0 (decide (x.ls.length=0))↔NoOffer x:=by
 unfold Sm30 NoOffer;rw [decide_eq_true_eq]
theorem c12 (x:W19) (ai:Option Addr) (ci:Nat) (w:World) (hs:x.of.le 1048576) (hat:LksAt w ai x.of.ls):
 Calls prog 12 #[.agg (lhA x.no x.up x.has x.of ai ci)] w fun e w'=>IsB (WkOk x) e/\Below w.heap.size w w':=by
 have hB0:∀ o,Below w.heap.size w (w.alloc o):=fun o=>bA;have HA:Hid (LksAt w ai x.of.ls):=hat;have hl:x.of.ls.length<=1048576:=hs.2.1.1;have HS:Hid (x.of.le 1048576):=hs;clear hat hs;obtain ⟨no,up,has,x⟩:=x;cases h1:decide (1<=no/\no<=4)
 · have HN:Hid (IsB (WkOk ⟨no,up,has,x⟩) (.returned (.bool false))):=isB_no (fun h=>of_decide_eq_false h1 h.1)
   go_enter func12,ntmps12
   go_wp2_with fail
   refine (c32 no _).mono ?_;rintro e w1 ⟨rfl,hw⟩;obtain rfl:=hw.symm;rw [h1];go_wp2;go_ret;exact ⟨HN.out,hB0 _⟩
 cases has
 · have HE:Hid (WkOk ⟨no,up,false,x⟩↔NoOffer x):=by
    constructor
    · rintro ⟨_,⟨h,_⟩ | ⟨_,h⟩⟩
      · cases h
      exact h
    exact fun h=>⟨of_decide_eq_true h1,.inr ⟨rfl,h⟩⟩
   go_enter func12,ntmps12
   go_wp2_with fail
   refine (c32 no _).mono ?_;rintro e w1 ⟨rfl,hw⟩;obtain rfl:=hw.symm;rw [h1]
   go_wp2_with fail
   refine (c34 x.kd x.to x.fr x.ep x.ed x.ct x.tn.cd x.tn.st x.km.nm x.km.tl x.km.ar x.tn.tx x.tn.nm x.tn.over x.tn.has 0 0 0 0 0 0 0 0 ⟨#[]⟩ ⟨#[]⟩ ⟨#[]⟩ ⟨#[]⟩ ⟨#[]⟩ false false ai none x.ls.length 0 ci 0 (decide (x.ls.length=0)) _ (fun u hb=>c68n ai none ci 0 x.ls u hl)).mono ?_;rintro e w2 ⟨⟨r,rfl,hr⟩,hb2⟩;have hB2:Below w.heap.size w w2:=(hB0 _).trans (hb2.mono sm_);have HR:Hid (r=true↔WkOk ⟨no,up,false,x⟩):=(hr.trans (sm_none x)).trans HE.out.symm;clear hr hb2;go_wp2;go_ret;exact ⟨⟨r,rfl,HR.out⟩,hB2⟩
 cases up
 · have HN:Hid (IsB (WkOk ⟨no,false,true,x⟩) (.returned (.bool false))):=isB_no (fun h=>by
    rcases h.2 with ⟨_,h,_⟩ | ⟨h,_⟩
    · cases h
    cases h)
   go_enter func12,ntmps12
   go_wp2_with fail
   refine (c32 no _).mono ?_;rintro e w1 ⟨rfl,hw⟩;obtain rfl:=hw.symm;rw [h1];go_wp2;go_ret;exact ⟨HN.out,hB0 _⟩
 have HE:Hid (WkOk ⟨no,true,true,x⟩↔OfferTo no x):=by
  constructor
  · rintro ⟨_,⟨_,_,h⟩ | ⟨h,_⟩⟩
    · exact h
    cases h
  exact fun h=>⟨of_decide_eq_true h1,.inl ⟨rfl,rfl,h⟩⟩
 go_enter func12,ntmps12
 go_wp2_with fail
 refine (c32 no _).mono ?_;rintro e w1 ⟨rfl,hw⟩;obtain rfl:=hw.symm;rw [h1]
 go_wp2_with fail
 refine (c33 no x ai ci _ HS.out (lks_below HA.out (hB0 _))).mono ?_;rintro e w2 ⟨⟨r,rfl,hr⟩,hb2⟩;have hB2:Below w.heap.size w w2:=(hB0 _).trans (hb2.mono sm_);have HR:Hid (r=true↔WkOk ⟨no,true,true,x⟩):=hr.trans HE.out.symm;clear hr hb2;go_wp2;go_ret;exact ⟨⟨r,rfl,HR.out⟩,hB2⟩
end Go.Proofs.YthjhakdpikdoeaaGreatDoor.M
