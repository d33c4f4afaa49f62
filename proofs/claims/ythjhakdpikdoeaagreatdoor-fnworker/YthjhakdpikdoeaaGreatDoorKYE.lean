import Derived.Test.YthjhakdpikdoeaaGreatDoorKYD
set_option linter.unusedVariables false
set_option maxHeartbeats 8000000
set_option maxRecDepth 100000
namespace Go.Proofs.YthjhakdpikdoeaaGreatDoor.M
open Proofs.Tryz
open Go.RowKit
def BareT (x:G16):Prop:=x.to=0/\x.km.tl=⟨#[]⟩/\x.km.ar=⟨#[]⟩/\x.ls.length=0
def TurnOkM (x:G16):Prop:=BareT x/\(1<=x.fr/\x.fr<=4)/\momOk x.ep x.ed=true/\nameOk x.km.nm.data.toList=true/\(0<=x.ct/\x.ct<=15)/\TnOk x.tn.over x.tn.cd x.tn.tx x.tn.has x.tn.nm x.tn.st
def BareH (x:G16):Prop:=x.to=0/\x.ep=0/\x.ed=0/\x.km.nm=⟨#[]⟩/\x.km.tl=⟨#[]⟩/\x.km.ar=⟨#[]⟩/\x.ls.length=0/\x.ct=0/\x.tn.over=false/\x.tn.cd=0/\x.tn.tx=⟨#[]⟩/\x.tn.has=false/\x.tn.nm=⟨#[]⟩/\x.tn.st=0
def HereOk (x:G16):Prop:=BareH x/\(1<=x.fr/\x.fr<=4)
theorem sm_turn (x:G16):Sm30 2 x.to x.fr x.ep x.ed x.km.nm x.km.tl x.km.ar x.ct x.tn.over x.tn.cd x.tn.tx x.tn.has x.tn.nm x.tn.st 2 0 x.fr x.ep x.ed x.km.nm ⟨#[]⟩ ⟨#[]⟩ x.ct x.tn.over x.tn.cd x.tn.tx x.tn.has x.tn.nm x.tn.st (decide (x.ls.length=0))↔BareT x:=by
 unfold Sm30 BareT;rw [decide_eq_true_eq];constructor
 · rintro ⟨_,h1,_,_,_,_,h2,h3,h4,_⟩
   exact ⟨h1,h2,h3,h4⟩
 rintro ⟨h1,h2,h3,h4⟩;exact ⟨rfl,h1,rfl,rfl,rfl,rfl,h2,h3,h4,rfl,rfl,rfl,rfl,rfl,rfl,rfl⟩
theorem sm_here (x:G16):Sm30 3 x.to x.fr x.ep x.ed x.km.nm x.km.tl x.km.ar x.ct x.tn.over x.tn.cd x.tn.tx x.tn.has x.tn.nm x.tn.st 3 0 x.fr 0 0 ⟨#[]⟩ ⟨#[]⟩ ⟨#[]⟩ 0 false 0 ⟨#[]⟩ false ⟨#[]⟩ 0 (decide (x.ls.length=0))↔BareH x:=by
 unfold Sm30 BareH;rw [decide_eq_true_eq];constructor
 · rintro ⟨_,h1,_,h2⟩
   exact ⟨h1,h2⟩
 rintro ⟨h1,h2⟩;exact ⟨rfl,h1,rfl,h2⟩
theorem c110 (x:G16) (ai:Option Addr) (ci:Nat) (w:World) (hl:x.ls.length<=1048576):
 Calls prog 110 #[.agg #[.int .i64 3,.int .i64 x.to,.int .i64 x.fr,.int .i64 x.ep,.int .i64 x.ed,.string x.km.nm,.string x.km.tl,.string x.km.ar,.slice ai x.ls.length ci,.int .i64 x.ct,.bool x.tn.over,.int .i64 x.tn.cd,.string x.tn.tx,.bool x.tn.has,.string x.tn.nm,.int .i64 x.tn.st]] w fun e w'=>IsB (HereOk x) e/\Below w.heap.size w w':=by
 have hB0:∀ o,Below w.heap.size w (w.alloc o):=fun o=>bA;go_enter func110,ntmps110
 go_wp2_with fail
 refine (c34 3 x.to x.fr x.ep x.ed x.ct x.tn.cd x.tn.st x.km.nm x.km.tl x.km.ar x.tn.tx x.tn.nm x.tn.over x.tn.has 3 0 x.fr 0 0 0 0 0 ⟨#[]⟩ ⟨#[]⟩ ⟨#[]⟩ ⟨#[]⟩ ⟨#[]⟩ false false ai none x.ls.length 0 ci 0 (decide (x.ls.length=0)) _ (fun u hb=>c68n ai none ci 0 x.ls u hl)).mono ?_;rintro e w1 ⟨⟨r,rfl,hr⟩,hb1⟩;have HR:Hid (r=true↔BareH x):=hr.trans (sm_here x);have hx1:Below (w.heap.size+1) (w.alloc (.cells #[.int .i64 3,.int .i64 x.to,.int .i64 x.fr,.int .i64 x.ep,.int .i64 x.ed,.string x.km.nm,.string x.km.tl,.string x.km.ar,.slice ai x.ls.length ci,.int .i64 x.ct,.bool x.tn.over,.int .i64 x.tn.cd,.string x.tn.tx,.bool x.tn.has,.string x.tn.nm,.int .i64 x.tn.st] 31)) w1:=by have h:=hb1;simp at h;exact h
 have hB1:Below w.heap.size w w1:=(hB0 _).trans (hx1.mono om_);have a2:w1.cell? ⟨w.heap.size,2,none⟩=some (.int .i64 x.fr):=(hx1.cell (p:=⟨w.heap.size,2,none⟩) (by show w.heap.size<w.heap.size+1;omega)).trans (by simp [go_sem]);clear hr hb1 hx1;cases r
 · have HN:Hid (IsB (HereOk x) (.returned (.bool false))):=isB_no (fun h=>absurd (HR.out.2 h.1) Bool.false_ne_true)
   go_wp2;go_ret;exact ⟨HN.out,hB1⟩
 go_wp2_with fail
 refine (c32 x.fr w1).mono ?_;rintro e w1' ⟨rfl,hw⟩;obtain rfl:=hw.symm;have HE:Hid (decide (1<=x.fr/\x.fr<=4)=true↔HereOk x):=by
  rw [decide_eq_true_eq];exact ⟨fun h=>⟨HR.out.1 (by first | rfl | trivial),h⟩,fun h=>h.2⟩
 go_wp2;go_ret;exact ⟨⟨_,rfl,by rw [<- HE.out];simp⟩,hB1⟩
theorem c107 (x:G16) (ai:Option Addr) (ci:Nat) (w:World) (hs:x.le 1048576):
 Calls prog 107 #[.agg #[.int .i64 2,.int .i64 x.to,.int .i64 x.fr,.int .i64 x.ep,.int .i64 x.ed,.string x.km.nm,.string x.km.tl,.string x.km.ar,.slice ai x.ls.length ci,.int .i64 x.ct,.bool x.tn.over,.int .i64 x.tn.cd,.string x.tn.tx,.bool x.tn.has,.string x.tn.nm,.int .i64 x.tn.st]] w fun e w'=>IsB (TurnOkM x) e/\Below w.heap.size w w':=by
 obtain ⟨s1,⟨hl,s3⟩,s4⟩:=hs;have hB0:∀ o p,Below w.heap.size w ((w.alloc o).alloc p):=fun o p=>bA.alloc sm_ _;clear s3;go_enter func107,ntmps107
 go_wp2_with fail
 refine (c34 2 x.to x.fr x.ep x.ed x.ct x.tn.cd x.tn.st x.km.nm x.km.tl x.km.ar x.tn.tx x.tn.nm x.tn.over x.tn.has 2 0 x.fr x.ep x.ed x.ct x.tn.cd x.tn.st x.km.nm ⟨#[]⟩ ⟨#[]⟩ x.tn.tx x.tn.nm x.tn.over x.tn.has ai none x.ls.length 0 ci 0 (decide (x.ls.length=0)) _ (fun u hb=>c68n ai none ci 0 x.ls u hl)).mono ?_;rintro e w1 ⟨⟨r,rfl,hr⟩,hb1⟩;have HR:Hid (r=true↔BareT x):=hr.trans (sm_turn x);have hx1:Below (w.heap.size+2) ((w.alloc (.cells #[.int .i64 2,.int .i64 x.to,.int .i64 x.fr,.int .i64 x.ep,.int .i64 x.ed,.string x.km.nm,.string x.km.tl,.string x.km.ar,.slice ai x.ls.length ci,.int .i64 x.ct,.bool x.tn.over,.int .i64 x.tn.cd,.string x.tn.tx,.bool x.tn.has,.string x.tn.nm,.int .i64 x.tn.st] 31)).alloc (.cells #[.int .i64 2,.int .i64 0,.int .i64 x.fr,.int .i64 x.ep,.int .i64 x.ed,.string x.km.nm,.string ⟨#[]⟩,.string ⟨#[]⟩,.slice none 0 0,.int .i64 x.ct,.bool x.tn.over,.int .i64 x.tn.cd,.string x.tn.tx,.bool x.tn.has,.string x.tn.nm,.int .i64 x.tn.st] 31)) w1:=by have h:=hb1;simp at h;exact h
 have hB1:Below w.heap.size w w1:=(hB0 _ _).trans (hx1.mono om_);have ZA:BlkAt w1 w.heap.size [.int .i64 2,.int .i64 x.to,.int .i64 x.fr,.int .i64 x.ep,.int .i64 x.ed,.string x.km.nm,.string x.km.tl,.string x.km.ar,.slice ai x.ls.length ci,.int .i64 x.ct,.bool x.tn.over,.int .i64 x.tn.cd,.string x.tn.tx,.bool x.tn.has,.string x.tn.nm,.int .i64 x.tn.st]:=fun j v h=>(hx1.cell (p:=⟨w.heap.size,j,none⟩) (by show w.heap.size<w.heap.size+2;omega)).trans (by simp [go_sem,h]);have a2:=ZA 2 _ rfl;have a3:=ZA 3 _ rfl;have a4:=ZA 4 _ rfl;have a5:=ZA 5 _ rfl;have a9:=ZA 9 _ rfl;have a10:=ZA 10 _ rfl;have a11:=ZA 11 _ rfl;have a12:=ZA 12 _ rfl;have a13:=ZA 13 _ rfl;have a14:=ZA 14 _ rfl;have a15:=ZA 15 _ rfl;clear hr hb1 hx1 ZA;cases r
 · have HN:Hid (IsB (TurnOkM x) (.returned (.bool false))):=isB_no (fun h=>absurd (HR.out.2 h.1) Bool.false_ne_true)
   go_wp2;go_ret;exact ⟨HN.out,hB1⟩
 go_wp2_with fail
 refine (c32 x.fr w1).mono ?_;rintro e w1' ⟨rfl,hw⟩;obtain rfl:=hw.symm;cases h2:decide (1<=x.fr/\x.fr<=4)
 · have HN:Hid (IsB (TurnOkM x) (.returned (.bool false))):=isB_no (fun h=>of_decide_eq_false h2 h.2.1)
   go_wp2;go_ret;exact ⟨HN.out,hB1⟩
 go_wp2_with fail
 refine (c125 x.ep x.ed w1).mono ?_;rintro e w1' ⟨rfl,hw⟩;obtain rfl:=hw.symm;cases h3:momOk x.ep x.ed
 · have HN:Hid (IsB (TurnOkM x) (.returned (.bool false))):=isB_no (fun h=>absurd (h3.symm.trans h.2.2.1) dc_)
   go_wp2;go_ret;exact ⟨HN.out,hB1⟩
 go_wp2_with fail
 refine (c69 x.km.nm w1 (by have:=s1.1;omega)).mono ?_;rintro e w1' ⟨rfl,hw⟩;obtain rfl:=hw.symm;cases h4:nameOk x.km.nm.data.toList
 · have HN:Hid (IsB (TurnOkM x) (.returned (.bool false))):=isB_no (fun h=>absurd (h4.symm.trans h.2.2.2.1) dc_)
   go_wp2;go_ret;exact ⟨HN.out,hB1⟩
 by_cases q1:0<=x.ct
 · by_cases q2:x.ct<=15
   · go_wp2_with fail
     refine (c133 x.tn.over x.tn.has x.tn.cd x.tn.st x.tn.tx x.tn.nm w1 (by have:=s4.1;omega) (by have:=s4.2;omega)).mono ?_;rintro e w2 ⟨⟨r,rfl,hr⟩,hb2⟩;have hB2:Below w.heap.size w w2:=bT hB1 hb2;have HE:Hid (r=true↔TurnOkM x):=⟨fun h=>⟨HR.out.1 (by first | rfl | trivial),of_decide_eq_true h2,h3,h4,⟨q1,q2⟩,hr.1 h⟩,fun h=>hr.2 h.2.2.2.2.2⟩;clear hr hb2;go_wp2;go_ret;exact ⟨⟨r,rfl,HE.out⟩,hB2⟩
   have q3:15<x.ct:=om_;have HN:Hid (IsB (TurnOkM x) (.returned (.bool false))):=isB_no (fun h=>q2 h.2.2.2.2.1.2);go_wp2;go_ret;exact ⟨HN.out,hB1⟩
 have q3:x.ct<0:=om_;have HN:Hid (IsB (TurnOkM x) (.returned (.bool false))):=isB_no (fun h=>q1 h.2.2.2.2.1.1);go_wp2;go_ret;exact ⟨HN.out,hB1⟩
end Go.Proofs.YthjhakdpikdoeaaGreatDoor.M
