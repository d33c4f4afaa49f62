import Derived.Test.YthjhakdpikdoeaaGreatDoorKY4
import Derived.Test.YthjhakdpikdoeaaGreatDoorKY5
set_option linter.unusedVariables false
set_option maxHeartbeats 8000000
set_option maxRecDepth 100000
namespace Go.Proofs.YthjhakdpikdoeaaGreatDoor.M
open Proofs.Tryz
open Go.RowKit
def Bare (x:G16):Prop:=x.fr=0/\x.ct=0/\x.tn.over=false/\x.tn.cd=0/\x.tn.tx=⟨#[]⟩/\x.tn.has=false/\x.tn.nm=⟨#[]⟩/\x.tn.st=0
def OfferOk (x:G16):Prop:=Bare x/\(1<=x.to/\x.to<=4)/\momOk x.ep x.ed=true/\okM x.km=true/\LksOk x.ls
theorem sm_offer (x:G16):Sm30 1 x.to x.fr x.ep x.ed x.km.nm x.km.tl x.km.ar x.ct x.tn.over x.tn.cd x.tn.tx x.tn.has x.tn.nm x.tn.st 1 x.to 0 x.ep x.ed x.km.nm x.km.tl x.km.ar 0 false 0 ⟨#[]⟩ false ⟨#[]⟩ 0 true↔Bare x:=by
 unfold Sm30 Bare;constructor
 · rintro ⟨_,_,h1,_,_,_,_,_,_,h2,h3,h4,h5,h6,h7,h8⟩
   exact ⟨h1,h2,h3,h4,h5,h6,h7,h8⟩
 rintro ⟨h1,h2,h3,h4,h5,h6,h7,h8⟩;exact ⟨rfl,rfl,h1,rfl,rfl,rfl,rfl,rfl,rfl,h2,h3,h4,h5,h6,h7,h8⟩
theorem c104 (x:G16) (ai:Option Addr) (ci:Nat) (w:World) (hs:x.le 1048576) (hat:LksAt w ai x.ls):
 Calls prog 104 #[.agg #[.int .i64 1,.int .i64 x.to,.int .i64 x.fr,.int .i64 x.ep,.int .i64 x.ed,.string x.km.nm,.string x.km.tl,.string x.km.ar,.slice ai x.ls.length ci,.int .i64 x.ct,.bool x.tn.over,.int .i64 x.tn.cd,.string x.tn.tx,.bool x.tn.has,.string x.tn.nm,.int .i64 x.tn.st]] w fun e w'=>IsB (OfferOk x) e/\Below w.heap.size w w':=by
 obtain ⟨s1,⟨hl,s3⟩,s4⟩:=hs;have HA:Hid (LksAt w ai x.ls):=hat;have HS:Hid (∀ i,(x.ls.getD i l4z).le 1048576):=s3;have hB0:∀ o p,Below w.heap.size w ((w.alloc o).alloc p):=fun o p=>bA.alloc sm_ _;clear hat s3;go_enter func104,ntmps104
 go_wp2_with fail
 refine (c34 1 x.to x.fr x.ep x.ed x.ct x.tn.cd x.tn.st x.km.nm x.km.tl x.km.ar x.tn.tx x.tn.nm x.tn.over x.tn.has 1 x.to 0 x.ep x.ed 0 0 0 x.km.nm x.km.tl x.km.ar ⟨#[]⟩ ⟨#[]⟩ false false ai ai x.ls.length x.ls.length ci ci true _ (fun u hb=>c68 ai ai ci ci x.ls u hl (lks_below HA.out ((hB0 _ _).trans (hb.mono (by simp <;> omega)))) (lks_below HA.out ((hB0 _ _).trans (hb.mono (by simp <;> omega)))))).mono ?_;rintro e w1 ⟨⟨r,rfl,hr⟩,hb1⟩;have HR:Hid (r=true↔Bare x):=hr.trans (sm_offer x);have hx1:Below (w.heap.size+2) ((w.alloc (.cells #[.int .i64 1,.int .i64 x.to,.int .i64 x.fr,.int .i64 x.ep,.int .i64 x.ed,.string x.km.nm,.string x.km.tl,.string x.km.ar,.slice ai x.ls.length ci,.int .i64 x.ct,.bool x.tn.over,.int .i64 x.tn.cd,.string x.tn.tx,.bool x.tn.has,.string x.tn.nm,.int .i64 x.tn.st] 31)).alloc (.cells #[.int .i64 1,.int .i64 x.to,.int .i64 0,.int .i64 x.ep,.int .i64 x.ed,.string x.km.nm,.string x.km.tl,.string x.km.ar,.slice ai x.ls.length ci,.int .i64 0,.bool false,.int .i64 0,.string ⟨#[]⟩,.bool false,.string ⟨#[]⟩,.int .i64 0] 31)) w1:=by have h:=hb1;simp at h;exact h
 have hB1:Below w.heap.size w w1:=(hB0 _ _).trans (hx1.mono om_);have hz1:w.heap.size<w1.heap.size:=by have:=hx1.size;simp at this;omega
 have ZA:BlkAt w1 w.heap.size [.int .i64 1,.int .i64 x.to,.int .i64 x.fr,.int .i64 x.ep,.int .i64 x.ed,.string x.km.nm,.string x.km.tl,.string x.km.ar,.slice ai x.ls.length ci,.int .i64 x.ct,.bool x.tn.over,.int .i64 x.tn.cd,.string x.tn.tx,.bool x.tn.has,.string x.tn.nm,.int .i64 x.tn.st]:=fun j v h=>(hx1.cell (p:=⟨w.heap.size,j,none⟩) (by show w.heap.size<w.heap.size+2;omega)).trans (by simp [go_sem,h]);have a1:=ZA 1 _ rfl;have a3:=ZA 3 _ rfl;have a4:=ZA 4 _ rfl;have a5:=ZA 5 _ rfl;have a6:=ZA 6 _ rfl;have a7:=ZA 7 _ rfl;clear hr hb1 hx1;cases r
 · have HN:Hid (IsB (OfferOk x) (.returned (.bool false))):=isB_no (fun h=>absurd (HR.out.2 h.1) Bool.false_ne_true)
   go_wp2;go_ret;exact ⟨HN.out,hB1⟩
 go_wp2_with fail
 refine (c32 x.to w1).mono ?_;rintro e w1' ⟨rfl,hw⟩;obtain rfl:=hw.symm;cases h2:decide (1<=x.to/\x.to<=4)
 · have HN:Hid (IsB (OfferOk x) (.returned (.bool false))):=isB_no (fun h=>of_decide_eq_false h2 h.2.1)
   go_wp2;go_ret;exact ⟨HN.out,hB1⟩
 go_wp2_with fail
 refine (c125 x.ep x.ed w1).mono ?_;rintro e w1' ⟨rfl,hw⟩;obtain rfl:=hw.symm;cases h3:momOk x.ep x.ed
 · have HN:Hid (IsB (OfferOk x) (.returned (.bool false))):=isB_no (fun h=>absurd (h3.symm.trans h.2.2.1) dc_)
   go_wp2;go_ret;exact ⟨HN.out,hB1⟩
 go_wp2_with fail
 refine (G.c35 x.km w1 ⟨by have:=s1.1;omega,by have:=s1.2.1;omega,by have:=s1.2.2;omega⟩).mono ?_;rintro e w2 ⟨rfl,hb2⟩;have hB2:Below w.heap.size w w2:=bT hB1 hb2;have b8:=(ZA.below hb2 hz1) 8 _ rfl;clear hb2 a1 a3 a4 a5 a6 a7;cases h4:okM x.km
 · have HN:Hid (IsB (OfferOk x) (.returned (.bool false))):=isB_no (fun h=>absurd (h4.symm.trans h.2.2.2.1) dc_)
   go_wp2;go_ret;exact ⟨HN.out,hB2⟩
 go_wp2_with fail
 refine (c126 ai ci x.ls w2 hl HS.out (lks_below HA.out hB2)).mono ?_;rintro e w3 ⟨⟨r,rfl,hr⟩,hb3⟩;have hB3:Below w.heap.size w w3:=bT hB2 hb3;have HE:Hid (r=true↔OfferOk x):=⟨fun h=>⟨HR.out.1 (by first | rfl | trivial),of_decide_eq_true h2,h3,h4,hr.1 h⟩,fun h=>hr.2 h.2.2.2.2⟩;clear hr hb3;go_wp2;go_ret;exact ⟨⟨r,rfl,HE.out⟩,hB3⟩
theorem c91 (w:World):
 Calls prog 91 #[] w fun e w'=>e=.returned (.agg #[.string ⟨#[]⟩,.nilFunc,.nilFunc,.nilFunc,.string ⟨#[111,102,102,101,114]⟩,.func (.func 104) #[] #[],.func (.func 105) #[] #[],.func (.func 106) #[] #[],.string ⟨#[116,117,114,110]⟩,.func (.func 107) #[] #[],.func (.func 108) #[] #[],.func (.func 109) #[] #[],.string ⟨#[104,101,114,101]⟩,.func (.func 110) #[] #[],.func (.func 111) #[] #[],.func (.func 112) #[] #[]])/\Below w.heap.size w w':=by
 have hsn:∀ (w:World) (a:Addr) (m:Mode),(store a .nilFunc m).run prog w=stored prog w a .nilFunc m:=fun w a m=>run_store _ _ _ _ _ rfl;have hsf:∀ (w:World) (a:Addr) (f:Fn) (x y:Array Value) (m:Mode),(store a (.func f x y) m).run prog w=stored prog w a (.func f x y) m:=fun w a f x y m=>run_store _ _ _ _ _ rfl;go_enter func91,ntmps91;go_wp2;refine bodyPost_ret (v:=.agg #[.string ⟨#[]⟩,.nilFunc,.nilFunc,.nilFunc,.string ⟨#[111,102,102,101,114]⟩,.func (.func 104) #[] #[],.func (.func 105) #[] #[],.func (.func 106) #[] #[],.string ⟨#[116,117,114,110]⟩,.func (.func 107) #[] #[],.func (.func 108) #[] #[],.func (.func 109) #[] #[],.string ⟨#[104,101,114,101]⟩,.func (.func 110) #[] #[],.func (.func 111) #[] #[],.func (.func 112) #[] #[]]) (by simp [results,Tryz.results91,go_sem]) rfl ⟨rfl,?_⟩;exact bA
end Go.Proofs.YthjhakdpikdoeaaGreatDoor.M
