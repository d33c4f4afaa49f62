import Derived.Test.YthjhakdpikdoeaaGreatDoorKYD
set_option linter.unusedVariables false
set_option maxHeartbeats 8000000
set_option maxRecDepth 100000
namespace Go.Proofs.YthjhakdpikdoeaaGreatDoor.M
open Proofs.Tryz
open Go.RowKit
def offerL (x:G16):List UInt8:=[111,102,102,101,114,32]++dec x.to++whenL x++[32]++x.km.tl.data.toList++[32]++quoteL x.km.ar.data.toList++[10]++looksL x.ls
theorem offerL_eq (x:G16):(⟨#[111,102,102,101,114,32]⟩:ByteArray)++ofL (dec x.to)++ofL (whenL x)++⟨#[32]⟩++x.km.tl++⟨#[32]⟩++ofL (quoteL x.km.ar.data.toList)++⟨#[10]⟩++ofL (looksL x.ls)=ofL (offerL x):=by
 show ofL [111,102,102,101,114,32]++ofL (dec x.to)++ofL (whenL x)++ofL [32]++ofL x.km.tl.data.toList++ofL [32]++ofL (quoteL x.km.ar.data.toList)++ofL [10]++ofL (looksL x.ls)=_;rw [cat_ofL,cat_ofL,cat_ofL,cat_ofL,cat_ofL,cat_ofL,cat_ofL,cat_ofL];rfl
def Is27 (x:G16) (e:Ending):Prop:=∃ s,e=.returned (.string s)/\((OfferOk x/\s=ofL (offerL x))\/(¬ OfferOk x/\s=⟨#[]⟩))
theorem is27_no {x:G16} (h:¬ OfferOk x):Is27 x (.returned (.string ⟨#[]⟩)):=⟨_,rfl,.inr ⟨h,rfl⟩⟩
theorem sm59_offer (x:G16):Sm59 x.to x.fr x.ep x.ed x.km.nm x.km.tl x.km.ar x.ct x.tn.over x.tn.cd x.tn.tx x.tn.has x.tn.nm x.tn.st x.to 0 x.ep x.ed x.km.nm x.km.tl x.km.ar 0 false 0 ⟨#[]⟩ false ⟨#[]⟩ 0 x.ls.length x.ls.length↔Bare x:=by
 unfold Sm59 Bare;constructor
 · rintro ⟨_,h1,_,_,_,_,_,_,h2,h3,h4,h5,h6,h7,h8⟩
   exact ⟨h1,h2,h3,h4,h5,h6,h7,h8⟩
 rintro ⟨h1,h2,h3,h4,h5,h6,h7,h8⟩;exact ⟨rfl,h1,rfl,rfl,rfl,rfl,rfl,rfl,h2,h3,h4,h5,h6,h7,h8⟩
theorem when_size (x:G16) (h1:0<=x.ep) (h2:x.ep<=1000) (h3:0<=x.ed) (h4:x.ed<=1000):(ofL (whenL x)).size<=200000005+x.km.nm.size:=by
 have a:=dec_size x.ep h1 om_;have b:=dec_size x.ed h3 om_;have e:x.km.nm.data.toList.length=x.km.nm.size:=sm_;rw [ofL_size] at a b ⊢;unfold whenL;simp only [List.length_append,List.length_cons,List.length_nil];omega
theorem looks_len (ls:List L4) (hok:LksOk ls) (hs:∀ i,(ls.getD i l4z).le 1048576):∀ k,k<=ls.length->(looksL (ls.take k)).length<=k*110000000:=by
 intro k
 induction k with
 | zero=>intro _;simp [looksL]
 | succ k ih=>
  intro hk;rw [looks_snoc ls k om_,List.length_append];have hx:=hs k;have hcd:=lk_code (hok.2 k om_);have zr:=res_size (ls.getD k l4z).cd (ls.getD k l4z).tx hcd.1 om_;have:=congrArg ByteArray.size (lookL_eq (ls.getD k l4z));rw [ofL_size] at this;simp only [ByteArray.size_append] at this;have w4:=word_size (ls.getD k l4z).has;have e1:(⟨#[32]⟩:ByteArray).size=1:=rfl;have e2:(⟨#[10]⟩:ByteArray).size=1:=rfl;have:=ih om_;have s1:=hx.1;have s2:=hx.2;omega
theorem looks_size (ls:List L4) (hok:LksOk ls) (hs:∀ i,(ls.getD i l4z).le 1048576):(ofL (looksL ls)).size<=1650000000:=by
 have:=looks_len ls hok hs ls.length lr_;rw [List.take_of_length_le lr_] at this;rw [ofL_size];have:=hok.1;omega
theorem c27 (x:G16) (ai:Option Addr) (ci:Nat) (w:World) (hs:x.le 1048576) (hat:LksAt w ai x.ls):
 Calls prog 27 #[.agg (ljA 1 x ai ci)] w fun e w'=>Is27 x e/\Below w.heap.size w w':=by
 obtain ⟨⟨s1,s1',s1''⟩,⟨hl,s3⟩,s4⟩:=hs;have HA:Hid (LksAt w ai x.ls):=hat;have HS:Hid (∀ i,(x.ls.getD i l4z).le 1048576):=s3;have hB0:∀ o,Below w.heap.size w (w.alloc o):=fun o=>bA;have HM:Hid (momOk x.ep x.ed=(decide (1<=x.ep/\x.ep<=200)&&decide (0<=x.ed/\x.ed<=1000))):=rfl;clear hat s3;cases h1:decide (1<=x.ep/\x.ep<=200)
 · have HF:Hid (momOk x.ep x.ed=false):=by rw [HM.out,h1];rfl
   go_enter func27,ntmps27
   go_wp2_with fail
   refine (c30 x.ep 1 200 _).mono ?_;rintro e w0 ⟨rfl,hw⟩;obtain rfl:=hw.symm;rw [h1]
   go_wp2_with fail
   refine (c59 1 x.to x.fr x.ep x.ed x.ct x.tn.cd x.tn.st x.km.nm x.km.tl x.km.ar x.tn.tx x.tn.nm x.tn.over x.tn.has 0 x.to 0 x.ep x.ed 0 0 0 x.km.nm x.km.tl x.km.ar ⟨#[]⟩ ⟨#[]⟩ false false ai ai x.ls.length x.ls.length ci ci _ hl hl).mono ?_;rintro e w1 ⟨⟨r,rfl,hr⟩,hb1⟩;have HR:Hid (r=true↔Bare x):=hr.trans (sm59_offer x);have hx1:Below (w.heap.size+1) (w.alloc (.cells (ljA 1 x ai ci) 31)) w1:=by have h:=hb1;simp at h;exact h
   have hB1:Below w.heap.size w w1:=(hB0 _).trans (hx1.mono om_);have hz1:w.heap.size<w1.heap.size:=by have:=hx1.size;simp at this;omega
   have ZA:BlkAt w1 w.heap.size (ljL 1 x ai ci):=fun j v h=>(hx1.cell (p:=⟨w.heap.size,j,none⟩) (by show w.heap.size<w.heap.size+1;omega)).trans (by simp [go_sem,h]);clear hr hb1 hx1;have a1:=ZA 1 _ rfl;cases r
   · have HN:Hid (Is27 x (.returned (.string ⟨#[]⟩))):=is27_no (fun h=>absurd (HF.out.symm.trans h.2.2.1) dc_)
     go_wp2;go_ret;exact ⟨HN.out,hB1⟩
   have HN:Hid (Is27 x (.returned (.string ⟨#[]⟩))):=is27_no (fun h=>absurd (HF.out.symm.trans h.2.2.1) dc_);go_wp2;go_ret;exact ⟨HN.out,hB1⟩
 cases h2:decide (0<=x.ed/\x.ed<=1000)
 · have HF:Hid (momOk x.ep x.ed=false):=by rw [HM.out,h1,h2];rfl
   go_enter func27,ntmps27
   go_wp2_with fail
   refine (c30 x.ep 1 200 _).mono ?_;rintro e w0 ⟨rfl,hw⟩;obtain rfl:=hw.symm;rw [h1]
   go_wp2_with fail
   refine (c30 x.ed 0 1000 _).mono ?_;rintro e w0 ⟨rfl,hw⟩;obtain rfl:=hw.symm;rw [h2]
   go_wp2_with fail
   refine (c59 1 x.to x.fr x.ep x.ed x.ct x.tn.cd x.tn.st x.km.nm x.km.tl x.km.ar x.tn.tx x.tn.nm x.tn.over x.tn.has 0 x.to 0 x.ep x.ed 0 0 0 x.km.nm x.km.tl x.km.ar ⟨#[]⟩ ⟨#[]⟩ false false ai ai x.ls.length x.ls.length ci ci _ hl hl).mono ?_;rintro e w1 ⟨⟨r,rfl,hr⟩,hb1⟩;have HR:Hid (r=true↔Bare x):=hr.trans (sm59_offer x);have hx1:Below (w.heap.size+1) (w.alloc (.cells (ljA 1 x ai ci) 31)) w1:=by have h:=hb1;simp at h;exact h
   have hB1:Below w.heap.size w w1:=(hB0 _).trans (hx1.mono om_);have hz1:w.heap.size<w1.heap.size:=by have:=hx1.size;simp at this;omega
   have ZA:BlkAt w1 w.heap.size (ljL 1 x ai ci):=fun j v h=>(hx1.cell (p:=⟨w.heap.size,j,none⟩) (by show w.heap.size<w.heap.size+1;omega)).trans (by simp [go_sem,h]);clear hr hb1 hx1;have a1:=ZA 1 _ rfl;cases r
   · have HN:Hid (Is27 x (.returned (.string ⟨#[]⟩))):=is27_no (fun h=>absurd (HF.out.symm.trans h.2.2.1) dc_)
     go_wp2;go_ret;exact ⟨HN.out,hB1⟩
   have HN:Hid (Is27 x (.returned (.string ⟨#[]⟩))):=is27_no (fun h=>absurd (HF.out.symm.trans h.2.2.1) dc_);go_wp2;go_ret;exact ⟨HN.out,hB1⟩
 have HF:Hid (momOk x.ep x.ed=true):=by rw [HM.out,h1,h2];rfl
 have q1:=of_decide_eq_true h1;have q2:=of_decide_eq_true h2;go_enter func27,ntmps27
 go_wp2_with fail
 refine (c30 x.ep 1 200 _).mono ?_;rintro e w0 ⟨rfl,hw⟩;obtain rfl:=hw.symm;rw [h1]
 go_wp2_with fail
 refine (c30 x.ed 0 1000 _).mono ?_;rintro e w0 ⟨rfl,hw⟩;obtain rfl:=hw.symm;rw [h2]
 go_wp2_with fail
 refine (c59 1 x.to x.fr x.ep x.ed x.ct x.tn.cd x.tn.st x.km.nm x.km.tl x.km.ar x.tn.tx x.tn.nm x.tn.over x.tn.has 0 x.to 0 x.ep x.ed 0 0 0 x.km.nm x.km.tl x.km.ar ⟨#[]⟩ ⟨#[]⟩ false false ai ai x.ls.length x.ls.length ci ci _ hl hl).mono ?_;rintro e w1 ⟨⟨r,rfl,hr⟩,hb1⟩;have HR:Hid (r=true↔Bare x):=hr.trans (sm59_offer x);have hx1:Below (w.heap.size+1) (w.alloc (.cells (ljA 1 x ai ci) 31)) w1:=by have h:=hb1;simp at h;exact h
 have hB1:Below w.heap.size w w1:=(hB0 _).trans (hx1.mono om_);have hz1:w.heap.size<w1.heap.size:=by have:=hx1.size;simp at this;omega
 have ZA:BlkAt w1 w.heap.size (ljL 1 x ai ci):=fun j v h=>(hx1.cell (p:=⟨w.heap.size,j,none⟩) (by show w.heap.size<w.heap.size+1;omega)).trans (by simp [go_sem,h]);clear hr hb1 hx1;have a1:=ZA 1 _ rfl;have a5:=ZA 5 _ rfl;have a6:=ZA 6 _ rfl;have a7:=ZA 7 _ rfl;cases r
 · have HN:Hid (Is27 x (.returned (.string ⟨#[]⟩))):=is27_no (fun h=>absurd (HR.out.2 h.1) Bool.false_ne_true)
   go_wp2;go_ret;exact ⟨HN.out,hB1⟩
 go_wp2_with fail
 refine (c30 x.to 1 4 _).mono ?_;rintro e w0 ⟨rfl,hw⟩;obtain rfl:=hw.symm;cases h3:decide (1<=x.to/\x.to<=4)
 · have HN:Hid (Is27 x (.returned (.string ⟨#[]⟩))):=is27_no (fun h=>of_decide_eq_false h3 h.2.1)
   go_wp2;go_ret;exact ⟨HN.out,hB1⟩
 have q3:=of_decide_eq_true h3
 go_wp2_with fail
 refine (c55 x.km w1 ⟨om_,om_,om_⟩).mono ?_;rintro e w2 ⟨rfl,hb2⟩;have hB2:Below w.heap.size w w2:=bT hB1 hb2;have hz2:w.heap.size<w2.heap.size:=Nat.lt_of_lt_of_le hz1 hb2.size;have ZB:=ZA.below hb2 hz1;have b8:=ZB 8 _ rfl;clear hb2 a1 a5 a6 a7 ZA;cases h4:okM x.km
 · have HN:Hid (Is27 x (.returned (.string ⟨#[]⟩))):=is27_no (fun h=>absurd (h4.symm.trans h.2.2.2.1) dc_)
   go_wp2;go_ret;exact ⟨HN.out,hB2⟩
 go_wp2_with fail
 refine (c56 ai ci x.ls w2 hl HS.out (lks_below HA.out hB2)).mono ?_;rintro e w3 ⟨⟨r,rfl,hr⟩,hb3⟩;have hB3:Below w.heap.size w w3:=bT hB2 hb3;have hz3:w.heap.size<w3.heap.size:=Nat.lt_of_lt_of_le hz2 hb3.size;have ZC:=ZB.below hb3 hz2;clear hb3 b8 ZB;cases r
 · have HN:Hid (Is27 x (.returned (.string ⟨#[]⟩))):=is27_no (fun h=>absurd (hr.2 h.2.2.2.2) Bool.false_ne_true)
   go_wp2;go_ret;exact ⟨HN.out,hB3⟩
 have HLO:Hid (LksOk x.ls):=hr.1 rfl;have HOK:Hid (OfferOk x):=⟨HR.out.1 (by first | rfl | trivial),q3,HF.out,h4,HLO.out⟩;have a0:=ZC 0 _ rfl;have a1:=ZC 1 _ rfl;have a2:=ZC 2 _ rfl;have a3:=ZC 3 _ rfl;have a4:=ZC 4 _ rfl;have a5:=ZC 5 _ rfl;have a6:=ZC 6 _ rfl;have a7:=ZC 7 _ rfl;have a8:=ZC 8 _ rfl;have a9:=ZC 9 _ rfl;have a10:=ZC 10 _ rfl;have a11:=ZC 11 _ rfl;have a12:=ZC 12 _ rfl;have a13:=ZC 13 _ rfl;have a14:=ZC 14 _ rfl;have a15:=ZC 15 _ rfl;clear hr ZC;have z1:=dec_size x.to om_ om_;have z2:=when_size x om_ om_ om_ om_;have z3:=quote_size x.km.ar;have z4:=looks_size x.ls HLO.out HS.out;have k0:¬ 9223372036854775807<6+(ofL (dec x.to)).size:=om_;have k1:¬ 9223372036854775807<6+(ofL (dec x.to)).size+(ofL (whenL x)).size:=om_;have k2':¬ 9223372036854775807<=6+(ofL (dec x.to)).size+(ofL (whenL x)).size:=om_;have k2:¬ 9223372036854775807<6+(ofL (dec x.to)).size+(ofL (whenL x)).size+1:=om_;have k3:¬ 9223372036854775807<6+(ofL (dec x.to)).size+(ofL (whenL x)).size+1+x.km.tl.size:=om_;have k4':¬ 9223372036854775807<=6+(ofL (dec x.to)).size+(ofL (whenL x)).size+1+x.km.tl.size:=om_;have k4:¬ 9223372036854775807<6+(ofL (dec x.to)).size+(ofL (whenL x)).size+1+x.km.tl.size+1:=om_;have k5:¬ 9223372036854775807<6+(ofL (dec x.to)).size+(ofL (whenL x)).size+1+x.km.tl.size+1+(ofL (quoteL x.km.ar.data.toList)).size:=om_;have k6':¬ 9223372036854775807<=6+(ofL (dec x.to)).size+(ofL (whenL x)).size+1+x.km.tl.size+1+(ofL (quoteL x.km.ar.data.toList)).size:=om_;have k6:¬ 9223372036854775807<6+(ofL (dec x.to)).size+(ofL (whenL x)).size+1+x.km.tl.size+1+(ofL (quoteL x.km.ar.data.toList)).size+1:=om_;have k7:¬ 9223372036854775807<6+(ofL (dec x.to)).size+(ofL (whenL x)).size+1+x.km.tl.size+1+(ofL (quoteL x.km.ar.data.toList)).size+1+(ofL (looksL x.ls)).size:=om_;have HE:Hid ((⟨#[111,102,102,101,114,32]⟩:ByteArray)++ofL (dec x.to)++ofL (whenL x)++⟨#[32]⟩++x.km.tl++⟨#[32]⟩++ofL (quoteL x.km.ar.data.toList)++⟨#[10]⟩++ofL (looksL x.ls)=ofL (offerL x)):=offerL_eq x;have h63:∀ u,Calls prog 60 #[.agg (ljA 1 x ai ci)] u fun e w'=>e=.returned (.string (ofL (whenL x)))/\Below u.heap.size u w':=fun u=>c60 ⟨1,x.to,x.fr,x.ep,x.ed,x.km,x.ls,x.ct,x.tn⟩ ai ci u (by show 0<=x.ep;omega) (by show x.ep<=1000;omega) (by show 0<=x.ed;omega) (by show x.ed<=1000;omega) (by show x.km.nm.size<=1048600;omega)
 go_wp2_with fail
 refine wp_region_held_drew (S:=(fun u=>u.cell? ⟨w.heap.size,0,none⟩=some (.int .i64 1)/\u.cell? ⟨w.heap.size,1,none⟩=some (.int .i64 x.to)/\u.cell? ⟨w.heap.size,2,none⟩=some (.int .i64 x.fr)/\u.cell? ⟨w.heap.size,3,none⟩=some (.int .i64 x.ep)/\u.cell? ⟨w.heap.size,4,none⟩=some (.int .i64 x.ed)/\u.cell? ⟨w.heap.size,5,none⟩=some (.string x.km.nm)/\u.cell? ⟨w.heap.size,6,none⟩=some (.string x.km.tl)/\u.cell? ⟨w.heap.size,7,none⟩=some (.string x.km.ar)/\u.cell? ⟨w.heap.size,8,none⟩=some (.slice ai x.ls.length ci)/\u.cell? ⟨w.heap.size,9,none⟩=some (.int .i64 x.ct)/\u.cell? ⟨w.heap.size,10,none⟩=some (.bool x.tn.over)/\u.cell? ⟨w.heap.size,11,none⟩=some (.int .i64 x.tn.cd)/\u.cell? ⟨w.heap.size,12,none⟩=some (.string x.tn.tx)/\u.cell? ⟨w.heap.size,13,none⟩=some (.bool x.tn.has)/\u.cell? ⟨w.heap.size,14,none⟩=some (.string x.tn.nm)/\u.cell? ⟨w.heap.size,15,none⟩=some (.int .i64 x.tn.st))) kr_ ?_ fun hHeld=>?_
 · ((try dsimp only);go_keep)
 refine tq 0 hHeld ?_
 try simp only [qq]
 refine tq 1 hHeld ?_
 try simp only [qq]
 refine tq 4 hHeld ?_
 try simp only [qq]
 refine tq 8 hHeld ?_
 try simp only [qq]
 refine tq 9 hHeld ?_
 try simp only [qq]
 refine tq 10 hHeld ?_
 try simp only [qq]
 refine tq 13 hHeld ?_
 try simp only [qq]
 refine tq 14 hHeld ?_
 try simp only [qq]
 refine tq 15 hHeld ?_
 try simp only [qq]
 refine tq 19 hHeld ?_
 try simp only [qq]
 refine tq 20 hHeld ?_
 try simp only [qq]
 refine rq 2 fun K hK=>?_;go_simp;refine (c46 (x.to.toNat+1) x.to _ om_ om_ (Nat.lt_succ_self _)).mono ?_;rintro e w4 ⟨rfl,hb4⟩;have HB4:Hid (Below w3.heap.size w3 w4):=((Below.refl _ _).drew).trans hb4;have b0:=(HB4.out.cell (p:=⟨w.heap.size,0,none⟩) (by exact hz3)).trans a0;have b1:=(HB4.out.cell (p:=⟨w.heap.size,1,none⟩) (by exact hz3)).trans a1;have b2:=(HB4.out.cell (p:=⟨w.heap.size,2,none⟩) (by exact hz3)).trans a2;have b3:=(HB4.out.cell (p:=⟨w.heap.size,3,none⟩) (by exact hz3)).trans a3;have b4:=(HB4.out.cell (p:=⟨w.heap.size,4,none⟩) (by exact hz3)).trans a4;have b5:=(HB4.out.cell (p:=⟨w.heap.size,5,none⟩) (by exact hz3)).trans a5;have b6:=(HB4.out.cell (p:=⟨w.heap.size,6,none⟩) (by exact hz3)).trans a6;have b7:=(HB4.out.cell (p:=⟨w.heap.size,7,none⟩) (by exact hz3)).trans a7;have b8:=(HB4.out.cell (p:=⟨w.heap.size,8,none⟩) (by exact hz3)).trans a8;have b9:=(HB4.out.cell (p:=⟨w.heap.size,9,none⟩) (by exact hz3)).trans a9;have b10:=(HB4.out.cell (p:=⟨w.heap.size,10,none⟩) (by exact hz3)).trans a10;have b11:=(HB4.out.cell (p:=⟨w.heap.size,11,none⟩) (by exact hz3)).trans a11;have b12:=(HB4.out.cell (p:=⟨w.heap.size,12,none⟩) (by exact hz3)).trans a12;have b13:=(HB4.out.cell (p:=⟨w.heap.size,13,none⟩) (by exact hz3)).trans a13;have b14:=(HB4.out.cell (p:=⟨w.heap.size,14,none⟩) (by exact hz3)).trans a14;have b15:=(HB4.out.cell (p:=⟨w.heap.size,15,none⟩) (by exact hz3)).trans a15;have hz4:w.heap.size<w4.heap.size:=Nat.lt_of_lt_of_le hz3 HB4.out.size;clear hb4
 go_wp2_with fail
 clear hHeld;refine hK.out _ _ ?_ fun hHeld=>?_
 · ((try dsimp only);go_keep)
 clear hK K
 try simp only [qq]
 refine tq 3 hHeld ?_
 try simp only [qq]
 refine rq 5 fun K hK=>?_;go_simp;refine (h63 w4).mono ?_;rintro e w5 ⟨rfl,hb5⟩;have HB5:Hid (Below w4.heap.size w4 w5):=hb5;have d0:=(HB5.out.cell (p:=⟨w.heap.size,0,none⟩) (by exact hz4)).trans b0;have d1:=(HB5.out.cell (p:=⟨w.heap.size,1,none⟩) (by exact hz4)).trans b1;have d2:=(HB5.out.cell (p:=⟨w.heap.size,2,none⟩) (by exact hz4)).trans b2;have d3:=(HB5.out.cell (p:=⟨w.heap.size,3,none⟩) (by exact hz4)).trans b3;have d4:=(HB5.out.cell (p:=⟨w.heap.size,4,none⟩) (by exact hz4)).trans b4;have d5:=(HB5.out.cell (p:=⟨w.heap.size,5,none⟩) (by exact hz4)).trans b5;have d6:=(HB5.out.cell (p:=⟨w.heap.size,6,none⟩) (by exact hz4)).trans b6;have d7:=(HB5.out.cell (p:=⟨w.heap.size,7,none⟩) (by exact hz4)).trans b7;have d8:=(HB5.out.cell (p:=⟨w.heap.size,8,none⟩) (by exact hz4)).trans b8;have d9:=(HB5.out.cell (p:=⟨w.heap.size,9,none⟩) (by exact hz4)).trans b9;have d10:=(HB5.out.cell (p:=⟨w.heap.size,10,none⟩) (by exact hz4)).trans b10;have d11:=(HB5.out.cell (p:=⟨w.heap.size,11,none⟩) (by exact hz4)).trans b11;have d12:=(HB5.out.cell (p:=⟨w.heap.size,12,none⟩) (by exact hz4)).trans b12;have d13:=(HB5.out.cell (p:=⟨w.heap.size,13,none⟩) (by exact hz4)).trans b13;have d14:=(HB5.out.cell (p:=⟨w.heap.size,14,none⟩) (by exact hz4)).trans b14;have d15:=(HB5.out.cell (p:=⟨w.heap.size,15,none⟩) (by exact hz4)).trans b15;have hz5:w.heap.size<w5.heap.size:=Nat.lt_of_lt_of_le hz4 HB5.out.size;clear hb5
 go_wp2_with fail
 clear hHeld;refine hK.out _ _ ?_ fun hHeld=>?_
 · ((try dsimp only);go_keep)
 clear hK K
 try simp only [qq]
 refine tq 6 hHeld ?_
 try simp only [qq]
 refine tq 7 hHeld ?_
 try simp only [qq]
 refine tq 11 hHeld ?_
 try simp only [qq]
 refine tq 12 hHeld ?_
 try simp only [qq]
 refine rq 16 fun K hK=>?_;go_simp;refine (c61' x.km.ar _ om_).mono ?_;rintro e w6 ⟨rfl,hb6⟩;have HB6:Hid (Below w5.heap.size w5 w6):=hb6;have f0:=(HB6.out.cell (p:=⟨w.heap.size,0,none⟩) (by exact hz5)).trans d0;have f1:=(HB6.out.cell (p:=⟨w.heap.size,1,none⟩) (by exact hz5)).trans d1;have f2:=(HB6.out.cell (p:=⟨w.heap.size,2,none⟩) (by exact hz5)).trans d2;have f3:=(HB6.out.cell (p:=⟨w.heap.size,3,none⟩) (by exact hz5)).trans d3;have f4:=(HB6.out.cell (p:=⟨w.heap.size,4,none⟩) (by exact hz5)).trans d4;have f5:=(HB6.out.cell (p:=⟨w.heap.size,5,none⟩) (by exact hz5)).trans d5;have f6:=(HB6.out.cell (p:=⟨w.heap.size,6,none⟩) (by exact hz5)).trans d6;have f7:=(HB6.out.cell (p:=⟨w.heap.size,7,none⟩) (by exact hz5)).trans d7;have f8:=(HB6.out.cell (p:=⟨w.heap.size,8,none⟩) (by exact hz5)).trans d8;have f9:=(HB6.out.cell (p:=⟨w.heap.size,9,none⟩) (by exact hz5)).trans d9;have f10:=(HB6.out.cell (p:=⟨w.heap.size,10,none⟩) (by exact hz5)).trans d10;have f11:=(HB6.out.cell (p:=⟨w.heap.size,11,none⟩) (by exact hz5)).trans d11;have f12:=(HB6.out.cell (p:=⟨w.heap.size,12,none⟩) (by exact hz5)).trans d12;have f13:=(HB6.out.cell (p:=⟨w.heap.size,13,none⟩) (by exact hz5)).trans d13;have f14:=(HB6.out.cell (p:=⟨w.heap.size,14,none⟩) (by exact hz5)).trans d14;have f15:=(HB6.out.cell (p:=⟨w.heap.size,15,none⟩) (by exact hz5)).trans d15;have hz6:w.heap.size<w6.heap.size:=Nat.lt_of_lt_of_le hz5 HB6.out.size;have hB6:Below w.heap.size w w6:=((bT hB3 HB4.out).trans (HB5.out.mono (bT hB3 HB4.out).size)).trans (HB6.out.mono ((bT hB3 HB4.out).trans (HB5.out.mono (bT hB3 HB4.out).size)).size);clear hb6
 go_wp2_with fail
 clear hHeld;refine hK.out _ _ ?_ fun hHeld=>?_
 · ((try dsimp only);go_keep)
 clear hK K
 try simp only [qq]
 refine tq 17 hHeld ?_
 try simp only [qq]
 refine tq 18 hHeld ?_
 try simp only [qq]
 refine rq 21 fun K hK=>?_;go_simp;refine (c62 ai ci x.ls w6 HLO.out HS.out (lks_below HA.out hB6)).mono ?_;rintro e w7 ⟨rfl,hb7⟩;have HB7:Hid (Below w6.heap.size w6 w7):=hb7;have g0:=(HB7.out.cell (p:=⟨w.heap.size,0,none⟩) (by exact hz6)).trans f0;have g1:=(HB7.out.cell (p:=⟨w.heap.size,1,none⟩) (by exact hz6)).trans f1;have g2:=(HB7.out.cell (p:=⟨w.heap.size,2,none⟩) (by exact hz6)).trans f2;have g3:=(HB7.out.cell (p:=⟨w.heap.size,3,none⟩) (by exact hz6)).trans f3;have g4:=(HB7.out.cell (p:=⟨w.heap.size,4,none⟩) (by exact hz6)).trans f4;have g5:=(HB7.out.cell (p:=⟨w.heap.size,5,none⟩) (by exact hz6)).trans f5;have g6:=(HB7.out.cell (p:=⟨w.heap.size,6,none⟩) (by exact hz6)).trans f6;have g7:=(HB7.out.cell (p:=⟨w.heap.size,7,none⟩) (by exact hz6)).trans f7;have g8:=(HB7.out.cell (p:=⟨w.heap.size,8,none⟩) (by exact hz6)).trans f8;have g9:=(HB7.out.cell (p:=⟨w.heap.size,9,none⟩) (by exact hz6)).trans f9;have g10:=(HB7.out.cell (p:=⟨w.heap.size,10,none⟩) (by exact hz6)).trans f10;have g11:=(HB7.out.cell (p:=⟨w.heap.size,11,none⟩) (by exact hz6)).trans f11;have g12:=(HB7.out.cell (p:=⟨w.heap.size,12,none⟩) (by exact hz6)).trans f12;have g13:=(HB7.out.cell (p:=⟨w.heap.size,13,none⟩) (by exact hz6)).trans f13;have g14:=(HB7.out.cell (p:=⟨w.heap.size,14,none⟩) (by exact hz6)).trans f14;have g15:=(HB7.out.cell (p:=⟨w.heap.size,15,none⟩) (by exact hz6)).trans f15;clear hb7
 go_wp2_with fail
 clear hHeld;refine hK.out _ _ ?_ fun hHeld=>?_
 · ((try dsimp only);go_keep)
 clear hK K
 try simp only [qq]
 refine tq 22 hHeld ?_
 try simp only [qq]
 refine tq 23 hHeld ?_
 try simp only [qq]
 refine wpAnyH_done kr_ ?_ _;have hB7:Below w.heap.size w w7:=bT hB6 HB7.out;clear hHeld;go_wp2;go_ret;exact ⟨⟨_,rfl,.inl ⟨HOK.out,HE.out⟩⟩,hB7⟩
end Go.Proofs.YthjhakdpikdoeaaGreatDoor.M
