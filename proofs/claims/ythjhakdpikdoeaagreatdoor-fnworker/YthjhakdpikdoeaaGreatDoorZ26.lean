import Derived.Test.YthjhakdpikdoeaaGreatDoorZ15
set_option linter.unusedVariables false
set_option maxHeartbeats 8000000
set_option linter.unusedSimpArgs false
namespace Go.Proofs.YthjhakdpikdoeaaGreatDoor.G
open Proofs.Tryz
open Go.RowKit
variable {is js ms:List M3} {base i k:Nat} {x y:M3} {b s:ByteArray} {R S a l q r t:List UInt8}
def stepM (ms:List M3) (k:Nat):Bool:=okM (ms.getD k m3z)&&(decide (k=0) || Op.bytesLess (ms.getD (k - 1) m3z).nm.toList (ms.getD k m3z).nm.toList)
def planOk (ms:List M3):Bool:=decide (ms.length<=30)&&(List.range ms.length).all (stepM ms)
theorem plan_iff (ms:List M3):planOk ms=true↔ms.length<=30/\∀ k,k<ms.length->stepM ms k=true:=by simp [planOk]
def formP (ms:List M3):List UInt8:=if planOk ms=true/\(ms.flatMap makeL).length<=300 then ms.flatMap makeL else []
theorem plan_bad (h:k<ms.length) (hs:stepM ms k=false):planOk ms=false:=by
 cases hp:planOk ms
 · rfl
 have:=((plan_iff ms).1 hp).2 k h;rw [hs] at this;cases this
theorem form_bad (h:k<ms.length) (hs:stepM ms k=false):formP ms=[]:=by
 unfold formP;rw [if_neg (by simp [plan_bad h hs])]
theorem form_long (h:30<ms.length):formP ms=[]:=by
 unfold formP;rw [if_neg (by rw [plan_iff];omega)]
theorem ok_sizes (h:okM x=true):x.nm.size<=20/\x.tl.size<=20/\x.ar.size<=300:=by
 simp [okM,nameOk] at h;exact ⟨h.1.1.1.2,h.1.2.1.2,om_⟩
theorem quote_size (h:s.size<=300):(ofL (quoteL s.data.toList)).size<=902:=by
 have:=quote_len s.data.toList;have e:s.data.toList.length=s.size:=sm_;rw [ofL_size];omega
theorem step_ok (h:stepM ms k=true):okM (ms.getD k m3z)=true:=by
 unfold stepM at h;cases hx:okM (ms.getD k m3z)
 · rw [hx] at h;cases h
 rfl
theorem make_len (h:okM x=true):(makeL x).length<=950:=by
 obtain ⟨h1,h2,h3⟩:=ok_sizes h;have s3:=quote_size h3;rw [ofL_size] at s3;have e1:x.nm.data.toList.length=x.nm.size:=sm_;have e2:x.tl.data.toList.length=x.tl.size:=sm_;simp only [makeL,bodyL,List.length_append,List.length_cons,List.length_nil,e1,e2];omega
theorem flat_snocM (hk:k<ms.length):(ms.take (k+1)).flatMap makeL=(ms.take k).flatMap makeL++makeL (ms.getD k m3z):=by
 have e:ms.getD k m3z=ms[k]:=by simp [hk]
 rw [List.take_succ_eq_append_getElem hk,List.flatMap_append,e];simp
theorem flat_lenM:∀ k,k<=ms.length->(∀ j,j<k->stepM ms j=true)->((ms.take k).flatMap makeL).length<=950*k:=by
 intro k
 induction k with
 | zero=>intro _ _;simp
 | succ k ih=>
  intro hk hd;rw [flat_snocM om_,List.length_append];have:=ih om_ (fun j hj=>hd j om_);have:=make_len (step_ok (hd k om_));omega
theorem ret_strv {a:ByteArray} (h:a=b):Value.string a=.string b:=by rw [h]
theorem line_eq (l:List UInt8) (x:M3):ofL l++(⟨#[109,97,107,101,32]⟩:ByteArray)++x.nm++(⟨#[32]⟩:ByteArray)++x.tl++(⟨#[32]⟩:ByteArray)++ofL (quoteL x.ar.data.toList)++(⟨#[10]⟩:ByteArray)=ofL (l++makeL x):=by
 apply ByteArray.ext;simp [ofL,makeL,bodyL]
theorem c49 (a:Option Addr) (cap:Nat) (is:List M3) (w:World) (hs:∀ i,(is.getD i m3z).le 1048576) (hl:is.length<=1048576) (hat:MksAt w a is):
 Calls prog 49 #[.slice a is.length cap] w fun e w'=>e=.returned (.string (ofL (formP is)))/\Below w.heap.size w w':=by
 obtain ⟨b,off,hc⟩:=mks_some hat;have HC:Hid (is=[]\/(a=some ⟨b,off,none⟩/\b<w.heap.size/\∀ i,i<is.length->w.cell? ⟨b,off+i*3,none⟩=some (.string (is.getD i m3z).nm)/\w.cell? ⟨b,off+i*3+1,none⟩=some (.string (is.getD i m3z).tl)/\w.cell? ⟨b,off+i*3+2,none⟩=some (.string (is.getD i m3z).ar))):=hc;clear hc hat;by_cases hbig:30<is.length
 · go_enter func49,ntmps49
   go_wp2;go_ret;exact ⟨ret_str (by rw [form_long hbig];rfl),Below.refl _ _⟩
 go_enter func49,ntmps49
 go_wp2_with fail
 go_loopw [3,4] (fun o i wr=>∃ (k:Nat),k<=is.length/\i=.int .i64 k/\o=.string (ofL ((is.take k).flatMap makeL))/\Below w.heap.size w wr/\Hid (∀ j,j<k->stepM is j=true)) (fun _ i _=>is.length - (intOf i).toNat)
 case atStart=>exact ⟨0,Nat.zero_le _,rfl,rfl,Below.refl _ _,fun j h=>absurd h (Nat.not_lt_zero _)⟩
 obtain ⟨k,hk,rfl,rfl,hb,hdone⟩:=hrel;have hL:(ofL ((is.take k).flatMap makeL)).size<=950*30:=by
  have:=flat_lenM k hk hdone.out;rw [ofL_size];omega
 by_cases hlt:k<is.length;rotate_left
 · have hp:planOk is=true:=(plan_iff is).2 ⟨om_,fun j hj=>hdone.out j om_⟩
   have HT:Hid ((is.take k).flatMap makeL=is.flatMap makeL):=by rw [List.take_of_length_le om_];rfl
   have HV:Hid (formP is=if (is.flatMap makeL).length<=300 then is.flatMap makeL else []):=by unfold formP;simp only [hp,true_and];trivial
   clear hp;rw [HT.out] at hL ⊢;generalize is.flatMap makeL=l at*;by_cases h300:300<(ofL l).size
   · go_wp2
     go_ret;exact ⟨ret_str (by rw [HV.out,if_neg (by rw [ofL_size] at h300;omega)];rfl),hb⟩
   go_wp2;go_ret;exact ⟨ret_str (by rw [HV.out,if_pos (by rw [ofL_size] at h300;omega)]),hb⟩
 rcases HC.out with hss | ⟨ha,hbw,hcell⟩
 · rw [hss] at hlt;exact absurd hlt (Nat.not_lt_zero _)
 subst ha;have HB:Hid (Below w.heap.size w wr):=hb;have g0:=(hb.cell (p:=⟨b,off+k*3,none⟩) hbw).trans (hcell k hlt).1;have g1:=(hb.cell (p:=⟨b,off+k*3+1,none⟩) hbw).trans (hcell k hlt).2.1;have g2:=(hb.cell (p:=⟨b,off+k*3+2,none⟩) hbw).trans (hcell k hlt).2.2;have hsx:Hid ((is.getD k m3z).le 1048700):=⟨Nat.le_trans (hs k).1 om_,Nat.le_trans (hs k).2.1 om_,Nat.le_trans (hs k).2.2 om_⟩;have HT:Hid ((is.take (k+1)).flatMap makeL=(is.take k).flatMap makeL++makeL (is.getD k m3z)):=flat_snocM hlt;generalize (is.take k).flatMap makeL=l at*;rcases Nat.eq_zero_or_pos k with h0 | h0
 · subst h0
   have HS:Hid (stepM is 0=okM (is.getD 0 m3z)):=by simp [stepM,Hid]
   simp only [Nat.zero_mul,Nat.add_zero] at g0 g1 g2;generalize is.getD 0 m3z=x at*;clear hcell hb
   go_wp2_with fail
   have HBW:Hid (Below w.heap.size w (wr.alloc (.cells #[.string x.nm,.string x.tl,.string x.ar] 24))):=HB.out.alloc HB.out.size _;have m0:(wr.alloc (.cells #[.string x.nm,.string x.tl,.string x.ar] 24)).cell? ⟨wr.heap.size,0,none⟩=some (.string x.nm):=sm_;have m1:(wr.alloc (.cells #[.string x.nm,.string x.tl,.string x.ar] 24)).cell? ⟨wr.heap.size,1,none⟩=some (.string x.tl):=sm_;have m2:(wr.alloc (.cells #[.string x.nm,.string x.tl,.string x.ar] 24)).cell? ⟨wr.heap.size,2,none⟩=some (.string x.ar):=sm_;have hmz:wr.heap.size<(wr.alloc (.cells #[.string x.nm,.string x.tl,.string x.ar] 24)).heap.size:=sm_;clear g0 g1 g2;generalize (wr.alloc (.cells #[.string x.nm,.string x.tl,.string x.ar] 24))=W at*;cases hx:okM x
   · refine wp_region_held_drew (S:=(fun u=>u.cell? ⟨wr.heap.size,0,none⟩=some (.string x.nm)/\u.cell? ⟨wr.heap.size,1,none⟩=some (.string x.tl)/\u.cell? ⟨wr.heap.size,2,none⟩=some (.string x.ar))) kr_ ?_ fun hH=>?_
     · ((try dsimp only);go_keep)
     refine tq 0 hH ?_
     try simp only [qq]
     refine rq 1 fun K hK=>?_;go_simp;refine (c55v hx _ hsx.out).mono ?_;rintro e w1 ⟨rfl,hb1⟩;have HB1:Hid (Below W.heap.size W w1):=((Below.refl _ _).drew).trans hb1;have p0:=(HB1.out.cell (p:=⟨wr.heap.size,0,none⟩) hmz).trans m0;have p1:=(HB1.out.cell (p:=⟨wr.heap.size,1,none⟩) hmz).trans m1;have p2:=(HB1.out.cell (p:=⟨wr.heap.size,2,none⟩) hmz).trans m2
     go_wp2_with fail
     clear hH;refine hK.out _ _ ?_ fun hH=>?_
     · ((try dsimp only);go_keep)
     clear hK K;refine tq 2 hH ?_;refine tq 3 hH ?_
     try simp only [qq]
     refine uq 4 hH ?_;refine uq 5 hH ?_
     try simp only [qq]
     refine uq 6 hH ?_;refine uq 7 hH ?_
     try simp only [qq]
     refine uq 8 hH ?_;refine uq 9 hH ?_
     try simp only [qq]
     refine uq 10 hH ?_;refine uq 11 hH ?_
     try simp only [qq]
     refine uq 12 hH ?_;refine uq 13 hH ?_
     try simp only [qq]
     refine uq 14 hH ?_;refine uq 15 hH ?_
     try simp only [qq]
     refine uq 16 hH ?_;refine tq 17 hH ?_
     try simp only [qq]
     refine wpAnyH_done kr_ ?_ _;have hB1:Below w.heap.size w w1:=bT HBW.out HB1.out;rw [hx] at HS;clear hH;go_wp2;go_ret;exact ⟨ret_str (by rw [form_bad hlt HS.out];rfl),hB1⟩
   refine wp_region_held_drew (S:=(fun u=>u.cell? ⟨wr.heap.size,0,none⟩=some (.string x.nm)/\u.cell? ⟨wr.heap.size,1,none⟩=some (.string x.tl)/\u.cell? ⟨wr.heap.size,2,none⟩=some (.string x.ar))) kr_ ?_ fun hH=>?_
   · ((try dsimp only);go_keep)
   refine tq 0 hH ?_
   try simp only [qq]
   refine rq 1 fun K hK=>?_;go_simp;refine (c55v hx _ hsx.out).mono ?_;rintro e w1 ⟨rfl,hb1⟩;have HB1:Hid (Below W.heap.size W w1):=((Below.refl _ _).drew).trans hb1;have p0:=(HB1.out.cell (p:=⟨wr.heap.size,0,none⟩) hmz).trans m0;have p1:=(HB1.out.cell (p:=⟨wr.heap.size,1,none⟩) hmz).trans m1;have p2:=(HB1.out.cell (p:=⟨wr.heap.size,2,none⟩) hmz).trans m2
   go_wp2_with fail
   clear hH;refine hK.out _ _ ?_ fun hH=>?_
   · ((try dsimp only);go_keep)
   clear hK K;refine tq 2 hH ?_;refine tq 3 hH ?_
   try simp only [qq]
   refine tq 4 hH ?_;refine tq 5 hH ?_
   try simp only [qq]
   refine tq 6 hH ?_;refine uq 7 hH ?_
   try simp only [qq]
   refine uq 8 hH ?_;refine uq 9 hH ?_
   try simp only [qq]
   refine uq 10 hH ?_;refine uq 11 hH ?_
   try simp only [qq]
   refine uq 12 hH ?_;refine uq 13 hH ?_
   try simp only [qq]
   refine uq 14 hH ?_;refine uq 15 hH ?_
   try simp only [qq]
   refine tq 16 hH ?_;refine tq 17 hH ?_
   try simp only [qq]
   refine wpAnyH_done kr_ ?_ _;have hB1:Below w.heap.size w w1:=bT HBW.out HB1.out;rw [hx] at HS;clear hH;have hd':Hid (∀ j,j<0+1->stepM is j=true):=fun j hj=>by
    rcases Nat.lt_or_ge j 0 with h | h
    · exact hdone.out j h
    obtain rfl:j=0:=om_;exact HS.out
   have hwz:wr.heap.size<w1.heap.size:=Nat.lt_of_lt_of_le hmz HB1.out.size;obtain ⟨j1,j2,j3⟩:=ok_sizes hx;have s3:=quote_size j3;have k0:¬ 9223372036854775807<(ofL l).size+5:=om_;have k1:¬ 9223372036854775807<(ofL l).size+5+x.nm.size:=om_;have k2:¬ 9223372036854775807<(ofL l).size+5+x.nm.size+1:=om_;have k2':¬ 9223372036854775807<=(ofL l).size+5+x.nm.size:=om_;have k3:¬ 9223372036854775807<(ofL l).size+5+x.nm.size+1+x.tl.size:=om_;have k4:¬ 9223372036854775807<(ofL l).size+5+x.nm.size+1+x.tl.size+1:=om_;have k4':¬ 9223372036854775807<=(ofL l).size+5+x.nm.size+1+x.tl.size:=om_;have k5:¬ 9223372036854775807<(ofL l).size+5+x.nm.size+1+x.tl.size+1+(ofL (quoteL x.ar.data.toList)).size:=om_;have k6:¬ 9223372036854775807<(ofL l).size+5+x.nm.size+1+x.tl.size+1+(ofL (quoteL x.ar.data.toList)).size+1:=om_;have k6':¬ 9223372036854775807<=(ofL l).size+5+x.nm.size+1+x.tl.size+1+(ofL (quoteL x.ar.data.toList)).size:=om_;have hxar:x.ar.size<=1048700:=om_
   go_wp2_with fail
   go_region_held3 (fun u=>u.cell? ⟨wr.heap.size,0,none⟩=some (.string x.nm)/\u.cell? ⟨wr.heap.size,1,none⟩=some (.string x.tl)/\u.cell? ⟨wr.heap.size,2,none⟩=some (.string x.ar)) (go_keep) (first | (go_at_call 61;refine (c61' x.ar _ hxar).mono ?_;rintro e w2 ⟨rfl,hb2⟩;have HB2:Hid (Below w.heap.size w w2):=hB1.trans (((Below.refl _ _).drew.trans hb2).mono hB1.size);have e0:=(hb2.cell (p:=⟨wr.heap.size,0,none⟩) (by simpa using hwz)).trans p0;have e1:=(hb2.cell (p:=⟨wr.heap.size,1,none⟩) (by simpa using hwz)).trans p1;have e2:=(hb2.cell (p:=⟨wr.heap.size,2,none⟩) (by simpa using hwz)).trans p2))
   all_goals go_wp2
   all_goals go_roundw
   all_goals first
    | exact ⟨0+1,om_,by go_num,ret_strv (by rw [HT.out];exact line_eq l x),HB2.out,hd'⟩
    | (simp [intOf];omega)
 obtain ⟨q,hq⟩:∃ q,q+1=k:=⟨k - 1,om_⟩;have g3':=(hb.cell (p:=⟨b,off+q*3,none⟩) hbw).trans (hcell q om_).1;have hbr0:b<wr.heap.size:=Nat.lt_of_lt_of_le hbw hb.size;have HS:Hid (stepM is k=(okM (is.getD k m3z)&&Op.bytesLess (is.getD q m3z).nm.toList (is.getD k m3z).nm.toList)):=by
  have e1:decide (k=0)=false:=decide_eq_false om_;have e2:k - 1=q:=om_;unfold stepM;rw [e1,e2];rfl
 have hm0:(0:Int)<(k:Int):=om_;have hm1:decide ((0:Int)<(k:Int))=true:=decide_eq_true hm0;generalize is.getD k m3z=x at*;generalize is.getD q m3z=y at*;have hwr:IntKind.i64.wrap ((k:Int) - 1)=(q:Int):=by rw [show (k:Int) - 1=(q:Int) by omega];exact wrap_nat q om_
 have hql:(q:Int)<(is.length:Int):=om_;clear hq;clear hcell hb
 go_wp2_with fail
 have HBW:Hid (Below w.heap.size w (wr.alloc (.cells #[.string x.nm,.string x.tl,.string x.ar] 24))):=HB.out.alloc HB.out.size _;have m0:(wr.alloc (.cells #[.string x.nm,.string x.tl,.string x.ar] 24)).cell? ⟨wr.heap.size,0,none⟩=some (.string x.nm):=sm_;have m1:(wr.alloc (.cells #[.string x.nm,.string x.tl,.string x.ar] 24)).cell? ⟨wr.heap.size,1,none⟩=some (.string x.tl):=sm_;have m2:(wr.alloc (.cells #[.string x.nm,.string x.tl,.string x.ar] 24)).cell? ⟨wr.heap.size,2,none⟩=some (.string x.ar):=sm_;have hmz:wr.heap.size<(wr.alloc (.cells #[.string x.nm,.string x.tl,.string x.ar] 24)).heap.size:=sm_;have hbr:b<(wr.alloc (.cells #[.string x.nm,.string x.tl,.string x.ar] 24)).heap.size:=Nat.lt_trans hbr0 hmz;have g3:(wr.alloc (.cells #[.string x.nm,.string x.tl,.string x.ar] 24)).cell? ⟨b,off+q*3,none⟩=some (.string y.nm):=(World.cell?_alloc_lt _ _ ⟨b,off+q*3,none⟩ hbr0).trans g3';clear g3';clear g0 g1 g2;generalize (wr.alloc (.cells #[.string x.nm,.string x.tl,.string x.ar] 24))=W at*;cases hx:okM x
 · cases hy:Op.bytesLess y.nm.toList x.nm.toList
   · refine wp_region_held_drew (S:=(fun u=>u.cell? ⟨wr.heap.size,0,none⟩=some (.string x.nm)/\u.cell? ⟨wr.heap.size,1,none⟩=some (.string x.tl)/\u.cell? ⟨wr.heap.size,2,none⟩=some (.string x.ar)/\u.cell? ⟨b,off+q*3,none⟩=some (.string y.nm))) kr_ ?_ fun hH=>?_
     · ((try dsimp only);go_keep)
     refine tq 0 hH ?_
     try simp only [qq]
     refine rq 1 fun K hK=>?_;go_simp;refine (c55v hx _ hsx.out).mono ?_;rintro e w1 ⟨rfl,hb1⟩;have HB1:Hid (Below W.heap.size W w1):=((Below.refl _ _).drew).trans hb1;have p0:=(HB1.out.cell (p:=⟨wr.heap.size,0,none⟩) hmz).trans m0;have p1:=(HB1.out.cell (p:=⟨wr.heap.size,1,none⟩) hmz).trans m1;have p2:=(HB1.out.cell (p:=⟨wr.heap.size,2,none⟩) hmz).trans m2;have p3:=(HB1.out.cell (p:=⟨b,off+q*3,none⟩) hbr).trans g3
     go_wp2_with fail
     clear hH;refine hK.out _ _ ?_ fun hH=>?_
     · ((try dsimp only);go_keep)
     clear hK K;refine tq 2 hH ?_;refine tq 3 hH ?_
     try simp only [qq]
     refine uq 4 hH ?_;refine uq 5 hH ?_
     try simp only [qq]
     refine uq 6 hH ?_;refine uq 7 hH ?_
     try simp only [qq]
     refine uq 8 hH ?_;refine uq 9 hH ?_
     try simp only [qq]
     refine uq 10 hH ?_;refine uq 11 hH ?_
     try simp only [qq]
     refine uq 12 hH ?_;refine uq 13 hH ?_
     try simp only [qq]
     refine uq 14 hH ?_;refine uq 15 hH ?_
     try simp only [qq]
     refine uq 16 hH ?_;refine tq 17 hH ?_
     try simp only [qq]
     refine wpAnyH_done kr_ ?_ _;have hB1:Below w.heap.size w w1:=bT HBW.out HB1.out;rw [hx,hy] at HS;clear hH;go_wp2;go_ret;exact ⟨ret_str (by rw [form_bad hlt HS.out];rfl),hB1⟩
   refine wp_region_held_drew (S:=(fun u=>u.cell? ⟨wr.heap.size,0,none⟩=some (.string x.nm)/\u.cell? ⟨wr.heap.size,1,none⟩=some (.string x.tl)/\u.cell? ⟨wr.heap.size,2,none⟩=some (.string x.ar)/\u.cell? ⟨b,off+q*3,none⟩=some (.string y.nm))) kr_ ?_ fun hH=>?_
   · ((try dsimp only);go_keep)
   refine tq 0 hH ?_
   try simp only [qq]
   refine rq 1 fun K hK=>?_;go_simp;refine (c55v hx _ hsx.out).mono ?_;rintro e w1 ⟨rfl,hb1⟩;have HB1:Hid (Below W.heap.size W w1):=((Below.refl _ _).drew).trans hb1;have p0:=(HB1.out.cell (p:=⟨wr.heap.size,0,none⟩) hmz).trans m0;have p1:=(HB1.out.cell (p:=⟨wr.heap.size,1,none⟩) hmz).trans m1;have p2:=(HB1.out.cell (p:=⟨wr.heap.size,2,none⟩) hmz).trans m2;have p3:=(HB1.out.cell (p:=⟨b,off+q*3,none⟩) hbr).trans g3
   go_wp2_with fail
   clear hH;refine hK.out _ _ ?_ fun hH=>?_
   · ((try dsimp only);go_keep)
   clear hK K;refine tq 2 hH ?_;refine tq 3 hH ?_
   try simp only [qq]
   refine uq 4 hH ?_;refine uq 5 hH ?_
   try simp only [qq]
   refine uq 6 hH ?_;refine uq 7 hH ?_
   try simp only [qq]
   refine uq 8 hH ?_;refine uq 9 hH ?_
   try simp only [qq]
   refine uq 10 hH ?_;refine uq 11 hH ?_
   try simp only [qq]
   refine uq 12 hH ?_;refine uq 13 hH ?_
   try simp only [qq]
   refine uq 14 hH ?_;refine uq 15 hH ?_
   try simp only [qq]
   refine uq 16 hH ?_;refine tq 17 hH ?_
   try simp only [qq]
   refine wpAnyH_done kr_ ?_ _;have hB1:Below w.heap.size w w1:=bT HBW.out HB1.out;rw [hx,hy] at HS;clear hH;go_wp2;go_ret;exact ⟨ret_str (by rw [form_bad hlt HS.out];rfl),hB1⟩
 cases hy:Op.bytesLess y.nm.toList x.nm.toList
 · refine wp_region_held_drew (S:=(fun u=>u.cell? ⟨wr.heap.size,0,none⟩=some (.string x.nm)/\u.cell? ⟨wr.heap.size,1,none⟩=some (.string x.tl)/\u.cell? ⟨wr.heap.size,2,none⟩=some (.string x.ar)/\u.cell? ⟨b,off+q*3,none⟩=some (.string y.nm))) kr_ ?_ fun hH=>?_
   · ((try dsimp only);go_keep)
   refine tq 0 hH ?_
   try simp only [qq]
   refine rq 1 fun K hK=>?_;go_simp;refine (c55v hx _ hsx.out).mono ?_;rintro e w1 ⟨rfl,hb1⟩;have HB1:Hid (Below W.heap.size W w1):=((Below.refl _ _).drew).trans hb1;have p0:=(HB1.out.cell (p:=⟨wr.heap.size,0,none⟩) hmz).trans m0;have p1:=(HB1.out.cell (p:=⟨wr.heap.size,1,none⟩) hmz).trans m1;have p2:=(HB1.out.cell (p:=⟨wr.heap.size,2,none⟩) hmz).trans m2;have p3:=(HB1.out.cell (p:=⟨b,off+q*3,none⟩) hbr).trans g3
   go_wp2_with fail
   clear hH;refine hK.out _ _ ?_ fun hH=>?_
   · ((try dsimp only);go_keep)
   clear hK K;refine tq 2 hH ?_;refine tq 3 hH ?_
   try simp only [qq]
   refine tq 4 hH ?_;refine tq 5 hH ?_
   try simp only [qq]
   refine tq 6 hH ?_;refine tq 7 hH ?_
   try simp only [qq]
   refine tq 8 hH ?_;refine tq 9 hH ?_
   try simp only [qq]
   refine tq 10 hH ?_;refine tq 11 hH ?_
   try simp only [qq]
   refine tq 12 hH ?_;refine tq 13 hH ?_
   try simp only [qq]
   refine tq 14 hH ?_;refine tq 15 hH ?_
   try simp only [qq]
   refine tq 16 hH ?_;refine tq 17 hH ?_
   try simp only [qq]
   refine wpAnyH_done kr_ ?_ _;have hB1:Below w.heap.size w w1:=bT HBW.out HB1.out;rw [hx,hy] at HS;clear hH;go_wp2;go_ret;exact ⟨ret_str (by rw [form_bad hlt HS.out];rfl),hB1⟩
 refine wp_region_held_drew (S:=(fun u=>u.cell? ⟨wr.heap.size,0,none⟩=some (.string x.nm)/\u.cell? ⟨wr.heap.size,1,none⟩=some (.string x.tl)/\u.cell? ⟨wr.heap.size,2,none⟩=some (.string x.ar)/\u.cell? ⟨b,off+q*3,none⟩=some (.string y.nm))) kr_ ?_ fun hH=>?_
 · ((try dsimp only);go_keep)
 refine tq 0 hH ?_
 try simp only [qq]
 refine rq 1 fun K hK=>?_;go_simp;refine (c55v hx _ hsx.out).mono ?_;rintro e w1 ⟨rfl,hb1⟩;have HB1:Hid (Below W.heap.size W w1):=((Below.refl _ _).drew).trans hb1;have p0:=(HB1.out.cell (p:=⟨wr.heap.size,0,none⟩) hmz).trans m0;have p1:=(HB1.out.cell (p:=⟨wr.heap.size,1,none⟩) hmz).trans m1;have p2:=(HB1.out.cell (p:=⟨wr.heap.size,2,none⟩) hmz).trans m2;have p3:=(HB1.out.cell (p:=⟨b,off+q*3,none⟩) hbr).trans g3
 go_wp2_with fail
 clear hH;refine hK.out _ _ ?_ fun hH=>?_
 · ((try dsimp only);go_keep)
 clear hK K;refine tq 2 hH ?_;refine tq 3 hH ?_
 try simp only [qq]
 refine tq 4 hH ?_;refine tq 5 hH ?_
 try simp only [qq]
 refine tq 6 hH ?_;refine tq 7 hH ?_
 try simp only [qq]
 refine tq 8 hH ?_;refine tq 9 hH ?_
 try simp only [qq]
 refine tq 10 hH ?_;refine tq 11 hH ?_
 try simp only [qq]
 refine tq 12 hH ?_;refine tq 13 hH ?_
 try simp only [qq]
 refine tq 14 hH ?_;refine tq 15 hH ?_
 try simp only [qq]
 refine tq 16 hH ?_;refine tq 17 hH ?_
 try simp only [qq]
 refine wpAnyH_done kr_ ?_ _;have hB1:Below w.heap.size w w1:=bT HBW.out HB1.out;rw [hx,hy] at HS;clear hH;have hd':Hid (∀ j,j<k+1->stepM is j=true):=fun j hj=>by
  rcases Nat.lt_or_ge j k with h | h
  · exact hdone.out j h
  obtain rfl:j=k:=om_;exact HS.out
 have hwz:wr.heap.size<w1.heap.size:=Nat.lt_of_lt_of_le hmz HB1.out.size;obtain ⟨j1,j2,j3⟩:=ok_sizes hx;have s3:=quote_size j3;have k0:¬ 9223372036854775807<(ofL l).size+5:=om_;have k1:¬ 9223372036854775807<(ofL l).size+5+x.nm.size:=om_;have k2:¬ 9223372036854775807<(ofL l).size+5+x.nm.size+1:=om_;have k2':¬ 9223372036854775807<=(ofL l).size+5+x.nm.size:=om_;have k3:¬ 9223372036854775807<(ofL l).size+5+x.nm.size+1+x.tl.size:=om_;have k4:¬ 9223372036854775807<(ofL l).size+5+x.nm.size+1+x.tl.size+1:=om_;have k4':¬ 9223372036854775807<=(ofL l).size+5+x.nm.size+1+x.tl.size:=om_;have k5:¬ 9223372036854775807<(ofL l).size+5+x.nm.size+1+x.tl.size+1+(ofL (quoteL x.ar.data.toList)).size:=om_;have k6:¬ 9223372036854775807<(ofL l).size+5+x.nm.size+1+x.tl.size+1+(ofL (quoteL x.ar.data.toList)).size+1:=om_;have k6':¬ 9223372036854775807<=(ofL l).size+5+x.nm.size+1+x.tl.size+1+(ofL (quoteL x.ar.data.toList)).size:=om_;have hxar:x.ar.size<=1048700:=om_
 go_wp2_with fail
 go_region_held3 (fun u=>u.cell? ⟨wr.heap.size,0,none⟩=some (.string x.nm)/\u.cell? ⟨wr.heap.size,1,none⟩=some (.string x.tl)/\u.cell? ⟨wr.heap.size,2,none⟩=some (.string x.ar)) (go_keep) (first | (go_at_call 61;refine (c61' x.ar _ hxar).mono ?_;rintro e w2 ⟨rfl,hb2⟩;have HB2:Hid (Below w.heap.size w w2):=hB1.trans (((Below.refl _ _).drew.trans hb2).mono hB1.size);have e0:=(hb2.cell (p:=⟨wr.heap.size,0,none⟩) (by simpa using hwz)).trans p0;have e1:=(hb2.cell (p:=⟨wr.heap.size,1,none⟩) (by simpa using hwz)).trans p1;have e2:=(hb2.cell (p:=⟨wr.heap.size,2,none⟩) (by simpa using hwz)).trans p2))
 all_goals go_wp2
 all_goals go_roundw
 all_goals first
  | exact ⟨k+1,om_,by go_num,ret_strv (by rw [HT.out];exact line_eq l x),HB2.out,hd'⟩
  | (simp [intOf];omega)
theorem cut_32b (l:List UInt8):(Lib.cut l [32]).2.1=restOf l:=by
 unfold Lib.cut;rcases idx_one l with ⟨h,hn⟩ | ⟨i,h,_,_,h2⟩
 · rw [h,if_neg om_,(word_none hn).2]
 rw [h,if_pos om_];exact h2
theorem parts_min (l:List UInt8):parts1 l (min 3 (l.length+1) - 1)=parts1 l 2:=by
 rcases Nat.lt_or_ge l.length 2 with h | h;rotate_left
 · have:min 3 (l.length+1)=3:=om_
   rw [this]
 cases l with
 | nil=>rw [parts_no _ sm_,parts_no _ sm_]
 | cons c r=>
  cases r with
  | cons d r=>simp at h;omega
  | nil=>
   by_cases h32:(32:UInt8)∈[c]
   · have e:restOf [c]=[]:=by
      simp only [List.mem_singleton] at h32;subst h32;rfl
     have e1:min 3 ([c].length+1) - 1=0+1:=rfl;rw [e1,parts_yes 0 h32,parts_yes 1 h32,e,parts_no _ sm_,parts_no _ sm_]
   rw [parts_no _ h32,parts_no _ h32]
theorem split32 {b:List UInt8} (ha:(32:UInt8)∉a) (hb:(32:UInt8)∉b) (h:a++32::r=b++32::q):a=b/\r=q:=by
 induction a generalizing b with
 | nil=>
  cases b with
  | nil=>simpa using h
  | cons c b=>simp at h;exact absurd (by rw [h.1];simp) hb
 | cons d a ih=>
  cases b with
  | nil=>simp at h;exact absurd (by rw [h.1];simp) ha
  | cons c b=>
   simp only [List.cons_append,List.cons.injEq] at h;obtain ⟨h1,h2⟩:=ih (fun h=>ha (List.mem_cons_of_mem _ h)) (fun h=>hb (List.mem_cons_of_mem _ h)) h.2;exact ⟨by rw [h.1,h1],h2⟩
theorem name_no (h:nameOk l=true):(32:UInt8)∉l/\(10:UInt8)∉l:=by
 simp only [nameOk,Bool.and_eq_true,List.all_eq_true] at h;constructor
 · intro hm
   have:=h.2 _ hm;revert this;decide
 intro hm;have:=h.2 _ hm;revert this;decide
theorem okM_facts (h:okM x=true):nameOk x.nm.data.toList=true/\nameOk x.tl.data.toList=true/\(x.ar.size:Int)<=300:=by
 simp only [okM,Bool.and_eq_true,decide_eq_true_eq] at h;exact ⟨h.1.1,h.1.2,h.2⟩
theorem body_form (x:M3):bodyL x=x.nm.data.toList++32::(x.tl.data.toList++32::quoteL x.ar.data.toList):=by simp [bodyL]
theorem body_ne (x:M3):bodyL x≠[]:=by rw [body_form];simp
def mkBody (x:M3):List UInt8:=[109,97,107,101]++32::bodyL x
theorem line_body (x:M3):makeL x=mkBody x++[10]:=rfl
theorem body_no10 (h:okM x=true):(10:UInt8)∉mkBody x:=by
 obtain ⟨h1,h2,_⟩:=okM_facts h;unfold mkBody;rw [body_form];simp only [List.mem_append,List.mem_cons,not_or];refine ⟨dc_,dc_,(name_no h1).2,dc_,(name_no h2).2,dc_,quote_no10 _⟩
theorem bodyL_inj (hx:okM x=true) (hy:okM y=true) (h:bodyL x=bodyL y):x=y:=by
 obtain ⟨a1,a2,_⟩:=okM_facts hx;obtain ⟨b1,b2,_⟩:=okM_facts hy;rw [body_form,body_form] at h;obtain ⟨e1,h⟩:=split32 (name_no a1).1 (name_no b1).1 h;obtain ⟨e2,h⟩:=split32 (name_no a2).1 (name_no b2).1 h;have e3:=quoteL_inj h;cases x;cases y;simp only [M3.mk.injEq];exact ⟨tx_inj e1,tx_inj e2,tx_inj e3⟩
theorem body_inj (hx:okM x=true) (hy:okM y=true) (h:mkBody x=mkBody y):x=y:=by
 unfold mkBody at h;exact bodyL_inj hx hy (by simpa using h)
theorem line_is (_hy:okM y=true):l=mkBody y↔wordOf l=[109,97,107,101]/\restOf l=bodyL y:=by
 constructor
 · rintro rfl
   exact word_split dc_
 rintro ⟨h1,h2⟩;by_cases hm:(32:UInt8)∈l
 · have:=(word_parts hm).1
   rw [h1,h2] at this;exact this
 rw [(word_none hm).2] at h2;exact absurd h2.symm (body_ne y)
theorem line_pre (hx:okM x=true) (hy:okM y=true) (h:makeL x++r=makeL y++q):x=y/\r=q:=by
 rw [line_body,line_body,List.append_assoc,List.append_assoc] at h;obtain ⟨h1,h2⟩:=split10 (body_no10 hx) (body_no10 hy) h;exact ⟨body_inj hx hy h1,h2⟩
theorem line_ne (x:M3):makeL x≠[]:=by rw [line_body];simp
theorem lines_pre (hi:is.all okM=true) (hj:js.all okM=true) (h:is.flatMap makeL++R=js.flatMap makeL):∃ r,R=r.flatMap makeL/\js=is++r:=by
 induction is generalizing js with
 | nil=>exact ⟨js,by simpa using h,rfl⟩
 | cons x is ih=>
  simp only [List.all_cons,Bool.and_eq_true] at hi
  cases js with
  | nil=>
   have:=line_ne x;simp at h;exact absurd h.1 this
  | cons y js=>
   simp only [List.all_cons,Bool.and_eq_true] at hj;simp only [List.flatMap_cons,List.append_assoc] at h;obtain ⟨rfl,h2⟩:=line_pre hi.1 hj.1 h;obtain ⟨r,hr,hl⟩:=ih hi.2 hj.2 h2;exact ⟨r,hr,by rw [hl];rfl⟩
theorem lines_inj (hi:is.all okM=true) (hj:js.all okM=true) (h:is.flatMap makeL=js.flatMap makeL):is=js:=by
 obtain ⟨r,hr,hl⟩:=lines_pre (R:=[]) hi hj (by simpa using h)
 cases r with
 | nil=>simpa using hl.symm
 | cons y r=>
  have:=line_ne y;simp at hr;exact absurd hr.1 this
theorem lines_ge (is:List M3):is.length<=(is.flatMap makeL).length:=by
 induction is with
 | nil=>simp
 | cons x r ih=>
  have:1<=(makeL x).length:=List.length_pos_iff.2 (line_ne x);simp only [List.flatMap_cons,List.length_append,List.length_cons];omega
theorem plan_all (h:planOk ms=true):ms.all okM=true:=by
 rw [List.all_eq_true];intro x hx;obtain ⟨k,hk,e⟩:=List.getElem_of_mem hx;have:=step_ok (((plan_iff ms).1 h).2 k hk);rw [List.getD,List.getElem?_eq_getElem hk] at this;rw [<- e];exact this
def IsPlan (l:List UInt8) (is:List M3) (ok:Bool):Prop:=(ok=true->planOk is=true/\is.flatMap makeL=l/\l.length<=300)/\(ok=false->is=[]/\∀ js,planOk js=true->js.flatMap makeL=l->300<l.length)
theorem isPlan_one {a b:Bool} (h:IsPlan l is a) (k:IsPlan l js b):is=js/\a=b:=by
 cases a <;> cases b
 · exact ⟨(h.2 rfl).1.trans (k.2 rfl).1.symm,rfl⟩
 · obtain ⟨k1,k2,k3⟩:=k.1 rfl
   have:=(h.2 rfl).2 js k1 k2;omega
 · obtain ⟨k1,k2,k3⟩:=h.1 rfl
   have:=(k.2 rfl).2 is k1 k2;omega
 obtain ⟨k1,k2,k3⟩:=k.1 rfl;obtain ⟨h1,h2,h3⟩:=h.1 rfl;exact ⟨lines_inj (plan_all h1) (plan_all k1) (h2.trans k2.symm),rfl⟩
def Way (l:List UInt8) (is:List M3) (r:List UInt8):Prop:=l=is.flatMap makeL++r/\is.all okM=true
theorem way_start (l:List UInt8):Way l [] l:=⟨rfl,rfl⟩
theorem way_step (h:Way l is (a++10::r)) (hx:okM x=true/\a=mkBody x):Way l (is++[x]) r:=by
 refine ⟨?_,by rw [List.all_append,h.2];simp [hx.1]⟩;rw [h.1,List.flatMap_append,hx.2];simp [line_body]
theorem way_stuck (h:Way l is r) (hr:r≠[]) (hn:∀ y q,okM y=true->r≠mkBody y++10::q):IsPlan l [] false:=by
 refine ⟨(fun h=>by cases h),fun _=>⟨rfl,fun js hj e=>?_⟩⟩;exfalso;obtain ⟨q,hq,hl⟩:=lines_pre h.2 (plan_all hj) (h.1.symm.trans e.symm)
 cases q with
 | nil=>exact hr hq
 | cons y q=>
  have hy:okM y=true:=by
   have:=(plan_all hj);rw [hl,List.all_append,List.all_cons] at this;simp only [Bool.and_eq_true] at this;exact this.2.1
  apply hn y (q.flatMap makeL) hy;rw [hq,List.flatMap_cons,line_body,List.append_assoc];rfl
theorem way_end (h:Way l is []) (h300:l.length<=300):(planOk is=true->IsPlan l is true)/\(planOk is=false->IsPlan l [] false):=by
 have e:l=is.flatMap makeL:=by simpa using h.1
 refine ⟨fun hk=>⟨fun _=>⟨hk,e.symm,h300⟩,(fun h=>by cases h)⟩,fun hk=>⟨(fun h=>by cases h),fun _=>⟨rfl,fun js hj ej=>?_⟩⟩⟩;have:=lines_inj (plan_all hj) h.2 (ej.trans e);rw [this,hk] at hj;cases hj
theorem read_long (h:300<l.length):IsPlan l [] false:=⟨(fun h=>by cases h),fun _=>⟨rfl,fun _ _ _=>h⟩⟩
theorem getM_ok (h:ms.all okM=true) (hi:i<ms.length):okM (ms.getD i m3z)=true:=by
 rw [List.getD,List.getElem?_eq_getElem hi];exact List.all_eq_true.1 h _ (List.getElem_mem hi)
theorem okM_le (h:okM x=true):x.le 300:=by
 obtain ⟨h1,h2,h3⟩:=ok_sizes h;exact ⟨om_,om_,h3⟩
theorem way_len (h:Way l is r):is.length+r.length<=l.length/\∀ i,(is.getD i m3z).le 300:=by
 have h1:=lines_ge is;have h2:=congrArg List.length h.1;rw [List.length_append] at h2;exact ⟨om_,getD_smallM fun i hi=>okM_le (getM_ok h.2 hi)⟩
def mkCells (is:List M3):List Value:=is.flatMap fun x=>[.string x.nm,.string x.tl,.string x.ar]
theorem mkCells_snoc (is:List M3) (x:M3):mkCells (is++[x])=mkCells is++[.string x.nm,.string x.tl,.string x.ar]:=by simp [mkCells]
theorem mkCells_get (is:List M3) (i:Nat) (h:i<is.length):(mkCells is)[i*3]?=some (.string (is.getD i m3z).nm)/\(mkCells is)[i*3+1]?=some (.string (is.getD i m3z).tl)/\(mkCells is)[i*3+2]?=some (.string (is.getD i m3z).ar):=by
 induction is generalizing i with
 | nil=>simp at h
 | cons x r ih=>
  cases i with
  | zero=>exact ⟨rfl,rfl,rfl⟩
  | succ i=>
   have:=ih i (by simpa using h);have e:∀ j,(mkCells (x::r))[(i+1)*3+j]?=(mkCells r)[i*3+j]?:=fun j=>by
    show ([Value.string x.nm,.string x.tl,.string x.ar]++mkCells r)[(i+1)*3+j]?=_;rw [List.getElem?_append_right so_]
    congr 1
    simp;omega
   have e0:=e 0;simp only [Nat.add_zero] at e0;rw [e0,e 1,e 2];exact this
theorem own3_form {w:World} {v:Value} (h:w.ownsRow base 24 3 v is.length (mkCells is)):∃ a cap,v=.slice a is.length cap/\MksAt w a is:=by
 have h':=h;rcases h.2 with ⟨hv,h0⟩ | ⟨g,cap,cur,hv,hg,hh,_⟩
 · exact ⟨none,0,by rw [hv,h0],.inl (List.length_eq_zero_iff.1 h0)⟩
 refine ⟨some ⟨g,0,none⟩,cap,hv,?_⟩;subst hv;refine .inr ⟨g,0,rfl,blk_lt hh,fun i hi=>?_⟩;obtain ⟨e0,e1,e2⟩:=mkCells_get is i hi;rw [Nat.zero_add,h'.cellAt _ om_,h'.cellAt _ om_,h'.cellAt _ om_];exact ⟨e0,e1,e2⟩
theorem cst_lines (js:List M3) (hj:js.all okM=true) (o:List (List UInt8)):(js.flatMap makeL).foldl (cst 10) (o,[])=(o++js.map mkBody,[]):=by
 induction js generalizing o with
 | nil=>simp
 | cons x r ih=>
  simp only [List.all_cons,Bool.and_eq_true] at hj;rw [List.flatMap_cons,List.foldl_append,line_body,cst_line _ _ (body_no10 hj.1)];simp only [List.nil_append];rw [ih hj.2];simp
theorem cut_lines (js:List M3) (hj:js.all okM=true):cutS 10 (js.flatMap makeL)=js.map mkBody++[[]]:=by
 unfold cutS cstate;rw [cst_lines js hj];simp
def Parsed (l:List UInt8) (x:M3):Prop:=∀ y,okM y=true->l=mkBody y->x=y
theorem parsed (ht:∀ q,restN l 3=quoteL q->t=q):Parsed l ⟨ofL (wordOf (restN l 1)),ofL (wordOf (restN l 2)),ofL t⟩:=by
 intro y hy e;obtain ⟨h1,h2,_⟩:=okM_facts hy;have r1:restN l 1=bodyL y:=((line_is hy).1 e).2;rw [body_form] at r1;have w1:=word_split (r:=y.tl.data.toList++32::quoteL y.ar.data.toList) (name_no h1).1;have r2:restN l 2=y.tl.data.toList++32::quoteL y.ar.data.toList:=by show restOf (restN l 1)=_;rw [r1];exact w1.2
 have w2:=word_split (r:=quoteL y.ar.data.toList) (name_no h2).1;have r3:restN l 3=quoteL y.ar.data.toList:=by show restOf (restN l 2)=_;rw [r2];exact w2.2
 have:=ht _ r3;subst this;rw [r1,r2,w1.1,w2.1];rfl
def Sofar (S:List UInt8) (is:List M3) (k:Nat):Prop:=∀ js:List M3,js.all okM=true->js.flatMap makeL=S->is=js.take k
theorem sofar_start (S:List UInt8):Sofar S [] 0:=fun _ _ _=>rfl
theorem sofar_step (h:Sofar S is k) (hk:k+1<(cutS 10 S).length) (hp:Parsed ((cutS 10 S).getD k []) x):Sofar S (is++[x]) (k+1):=by
 intro js hj e;have h1:=h js hj e;have hc:=cut_lines js hj;rw [e] at hc;rw [hc] at hk hp;simp only [List.length_append,List.length_map,List.length_cons,List.length_nil] at hk;have hkl:k<js.length:=om_;have hg:(js.map mkBody++[[]]).getD k []=mkBody js[k]:=by
  simp only [List.getD,List.getElem?_append_left (show k<(js.map mkBody).length by simpa using hkl),List.getElem?_map,List.getElem?_eq_getElem hkl];rfl
 rw [hg] at hp;have hok:okM js[k]=true:=(List.all_eq_true.1 hj) _ (List.getElem_mem hkl);rw [h1,hp js[k] hok rfl,<- List.take_succ_eq_append_getElem hkl]
theorem sofar_end (h:Sofar S is k) (hkl:is.length=k) (hk:k+1=(cutS 10 S).length) (h300:S.length<=300):(formP is=S->IsPlan S is true)/\(formP is≠S->IsPlan S [] false):=by
 constructor
 · intro h2
   unfold formP at h2;by_cases hc:planOk is=true/\(is.flatMap makeL).length<=300
   · rw [if_pos hc] at h2
     exact ⟨fun _=>⟨hc.1,h2,h300⟩,(fun h=>by cases h)⟩
   rw [if_neg hc] at h2;subst h2;have:k=0:=by simpa [cutS,cstate] using hk
   have:is=[]:=List.length_eq_zero_iff.1 om_;subst this;exact absurd ⟨rfl,sm_⟩ hc
 intro hn;refine ⟨(fun h=>by cases h),fun _=>⟨rfl,fun js hj e=>?_⟩⟩;exfalso;apply hn;have hall:=plan_all hj;have h1:=h js hall e;have hc:=cut_lines js hall;rw [e] at hc;rw [hc] at hk;simp only [List.length_append,List.length_map,List.length_cons,List.length_nil] at hk;rw [List.take_of_length_le om_] at h1;subst h1;unfold formP;rw [if_pos ⟨hj,by rw [e];exact h300⟩,e]
end Go.Proofs.YthjhakdpikdoeaaGreatDoor.G
