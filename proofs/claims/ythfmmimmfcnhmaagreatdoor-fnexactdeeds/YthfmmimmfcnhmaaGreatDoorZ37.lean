import Derived.Test.YthfmmimmfcnhmaaGreatDoorZ07
import Derived.Test.YthfmmimmfcnhmaaGreatDoorZ36
set_option maxHeartbeats 8000000
set_option maxRecDepth 100000
namespace Go.Proofs.YthfmmimmfcnhmaaGreatDoor.M
open Proofs.Tryz
open Go.RowKit
variable {P:Prop} {x:L4}
theorem div_form (n:Int) (h:0<=n) (h1:n<=100000000):IntKind.i64.wrap (n.tdiv 10)=n / 10:=by
 rw [Int.tdiv_eq_ediv_of_nonneg h]
 simp [IntKind.wrap,IntKind.signed,IntKind.bits];omega
theorem ofL_snoc (l:List UInt8) (x:Int):ofL (l++[UInt8.ofNat x.toNat])=ofL l++strOfNums [x]:=by
 apply ByteArray.ext
 simp [ofL,strOfNums]
theorem c116 (f:Nat):∀ (n:Int) (w:World),0<=n->n<=100000000->n.toNat<f->
 Calls prog 116 #[.int .i64 n] w fun e w'=>e=.returned (.string (ofL (dec n)))/\Below w.heap.size w w':=by
 induction f with
 | zero=>intro n w _ _ h;omega
 | succ f ih=>
  intro n w h0 h1 hf
  have hcv:=conv1
  have hcd:=convD
  have hz:∀ y,(strOfNums [y]).size=1:=fun y=>strOfNums_size [y]
  by_cases h:n<10
  · go_enter func116,ntmps116
    go_wp2
    go_ret
    exact ⟨by rw [dec_lt n h];rfl,(Below.refl _ _).alloc (Nat.le_refl _) _⟩
  have hq:(ofL (dec (n / 10))).size<=100000001:=by rw [ofL_size];exact dec_len _ (by omega) (by omega)
  have H:Hid (∀ w,Calls prog 116 #[.int .i64 (IntKind.i64.wrap (n.tdiv 10))] w fun e w'=>e=.returned (.string (ofL (dec (n / 10))))/\Below w.heap.size w w'):=by
   rw [div_form n h0 h1]
   exact fun w=>ih (n / 10) w (by omega) (by omega) (by omega)
  have HD:Hid (Ending.returned (.string (ofL (dec (n / 10))++strOfNums [48+n % 10]))=.returned (.string (ofL (dec n)))):=by
   rw [dec_ge n (by omega),ofL_snoc];rfl
  clear ih
  go_enter func116,ntmps116
  go_wp2_with fail
  go_region_with (go_at_call 116;refine (H.out _).mono ?_;rintro e w1 ⟨rfl,hb1⟩;(try (have hcb:=convB hb1)))
  all_goals go_wp2
  all_goals go_ret
  all_goals refine ⟨?_,?_⟩
  all_goals first
   | exact HD.out
   | exact (((Below.refl w.heap.size w).drew).trans hb1).alloc hb1.size _
   | exact (((Below.refl w.heap.size w).alloc (Nat.le_refl _) _).drew).trans (hb1.mono (by simp))
theorem ret_int {k:IntKind} {a b:Int} (h:a=b):Ending.returned (.int k a)=.returned (.int k b):=by rw [h]
theorem c120 (s:ByteArray) (w:World) (hs:s.size<=1048700):
 Calls prog 120 #[.string s] w fun e w'=>e=.returned (.int .i64 (n29 s.data.toList))/\Below w.heap.size w w':=by
 by_cases h:1<=s.size/\s.size<=7
 rotate_left
 · have hN:Hid (n29 s.data.toList=-1):=n29_len (by simpa using h)
   by_cases h1:1<=s.size
   all_goals
    go_enter func120,ntmps120
    go_wp2
    all_goals go_ret
    all_goals exact ⟨ret_int hN.out.symm,Below.refl _ _⟩
 obtain ⟨h1,h2⟩:=h
 go_enter func120,ntmps120
 go_wp2
 go_loop [3,4] (fun n i=>∃ k:Nat,k<=s.size/\i=.int .i64 k/\n=.int .i64 (val (s.data.toList.take k))/\0<=val (s.data.toList.take k)/\val (s.data.toList.take k)<=10000000/\Hid ((s.data.toList.take k).all isDig=true)) (fun _ i=>s.size - (intOf i).toNat)
 case atStart=>exact ⟨0,Nat.zero_le _,rfl,rfl,by simp [val],by simp [val],rfl⟩
 obtain ⟨k,hk,rfl,rfl,hv0,hv1,ha⟩:=hrel
 by_cases hlt:k<s.size
 · by_cases hg:isDig s[k]=true
   · have hg':=(dig_iff _).1 hg
     have hw:=byte_sub _ hg'
     have ha':Hid ((s.data.toList.take (k+1)).all isDig=true):=all_take_snoc _ s k hlt ha.out hg
     have hvs:Hid (val (s.data.toList.take (k+1))=val (s.data.toList.take k)*10+((s[k].toNat:Int) - 48)):=by
      rw [take_snoc s k hlt];exact val_snoc _ _
     have hb:Hid (val (s.data.toList.take (k+1))<=10000000):=val_seven _ ha'.out (by simp;omega)
     clear hg
     go_wp2
     go_round
     case rel=>exact ⟨k+1,by omega,by go_num,by rw [hvs.out],by rw [hvs.out];omega,hb.out,ha'⟩
     case measure=>simp [intOf];omega
   have hN:Hid (n29 s.data.toList=-1):=n29_dig (all_false_at _ s k hlt (by simpa using hg))
   have hg':(s[k].toNat:Int)<48\/57<(s[k].toNat:Int):=by
    rcases Int.lt_or_le (s[k].toNat:Int) 48 with h | h
    · exact .inl h
    rcases Int.lt_or_le 57 (s[k].toNat:Int) with h' | h'
    · exact .inr h'
    exact absurd ((dig_iff _).2 ⟨h,h'⟩) hg
   clear hg
   rcases hg' with hg | hg
   all_goals
    go_wp2
    all_goals go_ret
    all_goals exact ⟨ret_int hN.out.symm,Below.refl _ _⟩
 have hall:Hid (s.data.toList.all isDig=true):=all_take_size _ s k (by omega) ha.out
 have hE:Hid (s.data.toList.take k=s.data.toList):=List.take_of_length_le (by simp;omega)
 go_wp2_with fail
 refine (c116 _ _ _ hv0 (by omega) (Nat.lt_succ_self _)).mono ?_
 rintro e w1 ⟨rfl,hb1⟩
 rw [hE.out]
 by_cases hd:dec (val s.data.toList)=s.data.toList
 · have hN:Hid (n29 s.data.toList=val s.data.toList):=n29_yes (by simpa using ⟨h1,h2⟩) hall.out hd
   have hne:((ofL (dec (val s.data.toList))).toList==s.toList)=true:=by
    rw [hd,ByteArray.toList_eq,ByteArray.toList_eq];simp [ofL]
   clear hd
   go_wp2
   go_ret
   exact ⟨ret_int hN.out.symm,hb1⟩
 have hN:Hid (n29 s.data.toList=-1):=n29_dec hd
 have hne:((ofL (dec (val s.data.toList))).toList==s.toList)=false:=by
  rw [ByteArray.toList_eq,ByteArray.toList_eq];simpa [ofL] using hd
 clear hd
 go_wp2
 go_ret
 exact ⟨ret_int hN.out.symm,hb1⟩
theorem c115 (c:Int) (s:ByteArray) (w:World) (hs:s.size<=1048700):
 Calls prog 115 #[.agg #[.int .i64 c,.string s]] w fun e w'=>e=.returned (.bool (vr c s.data.toList))/\Below w.heap.size w w':=by
 have hlen:s.data.toList.length=s.size:=by simp
 by_cases h300:300<s.size
 · have hV:Hid (vr c s.data.toList=false):=vr_long (by omega)
   clear hlen
   go_enter func115,ntmps115
   go_wp2
   go_ret
   exact ⟨ret_bool (by rw [hV.out]),(Below.refl _ _).alloc (Nat.le_refl _) _⟩
 by_cases h01:c=0\/c=1
 · have hV:Hid (vr c s.data.toList=true):=by unfold vr;rw [if_pos h01,hlen];simp [Hid];omega
   clear hlen
   rcases h01 with rfl | rfl
   all_goals
    go_enter func115,ntmps115
    go_wp2
    go_ret
    exact ⟨ret_bool (by rw [hV.out]),(Below.refl _ _).alloc (Nat.le_refl _) _⟩
 by_cases h2:c=2
 · subst h2
   have hV:Hid (vr 2 s.data.toList=num40 s.data.toList):=rfl
   clear hlen h01
   go_enter func115,ntmps115
   go_wp2_with fail
   refine (c120 _ _ hs).mono ?_
   rintro e w1 ⟨rfl,hb1⟩
   go_wp2_with fail
   refine (c32 _ _ _ _).mono ?_
   rintro e w2 ⟨rfl,rfl⟩
   go_wp2
   go_ret
   refine ⟨ret_bool (by rw [hV.out];rw [<- n29_num40];simp),((Below.refl _ _).alloc (Nat.le_refl _) _).trans (hb1.mono (by simp))⟩
 by_cases h3:c=3
 · subst h3
   have hV:Hid (vr 3 s.data.toList=s.toList.isEmpty):=by rw [ByteArray.toList_eq];rfl
   clear hlen h01 h2
   go_enter func115,ntmps115
   go_wp2
   go_ret
   exact ⟨ret_bool (by rw [hV.out]),(Below.refl _ _).alloc (Nat.le_refl _) _⟩
 by_cases h4:c=4\/c=5\/c=7
 · have hV:Hid (vr c s.data.toList=nameOk s.data.toList):=by unfold vr;rw [if_neg h01,if_neg h2,if_neg h3,if_pos h4];rfl
   clear hlen h01 h2 h3
   rcases h4 with rfl | rfl | rfl
   all_goals
    go_enter func115,ntmps115
    go_wp2_with fail
    refine (c15 _ _ hs).mono ?_
    rintro e w1 ⟨rfl,rfl⟩
    go_wp2
    go_ret
    exact ⟨ret_bool (by rw [hV.out]),(Below.refl _ _).alloc (Nat.le_refl _) _⟩
 have hV:Hid (vr c s.data.toList=false):=by unfold vr;rw [if_neg h01,if_neg h2,if_neg h3,if_neg h4];rfl
 have e0:(c==0)=false:=by simp;omega
 have e1:(c==1)=false:=by simp;omega
 have e2:(c==2)=false:=by simp;omega
 have e3:(c==3)=false:=by simp;omega
 have e4:(c==4)=false:=by simp;omega
 have e5:(c==5)=false:=by simp;omega
 have e7:(c==7)=false:=by simp;omega
 clear hlen h01 h2 h3 h4
 go_enter func115,ntmps115
 go_wp2
 go_ret
 exact ⟨ret_bool (by rw [hV.out]),(Below.refl _ _).alloc (Nat.le_refl _) _⟩
set_option linter.unusedSimpArgs false
def LkOk (x:L4):Prop:=nameOk x.nm.data.toList=true/\((x.has=true/\((x.cd=0/\x.tx=⟨#[]⟩)\/(x.cd=4/\x.tx=x.nm)))\/(x.has=false/\vr x.cd x.tx.data.toList=true))
def IsB (P:Prop) (e:Ending):Prop:=∃ r,e=.returned (.bool r)/\(r=true↔P)
theorem isB_no (h:¬ P):IsB P (.returned (.bool false)):=⟨false,rfl,⟨fun h=>absurd h Bool.false_ne_true,fun k=>absurd k h⟩⟩
theorem isB_yes (h:P):IsB P (.returned (.bool true)):=⟨true,rfl,⟨fun _=>h,fun _=>rfl⟩⟩
theorem ba_iff (x y:ByteArray):x.toList=y.toList↔x=y:=⟨fun h=>by
 rw [ByteArray.toList_eq,ByteArray.toList_eq] at h
 exact ByteArray.ext (Array.toList_inj.1 h),fun h=>by rw [h]⟩
theorem ba_nil (x:ByteArray):x.toList=[]↔x=⟨#[]⟩:=by
 rw [ByteArray.toList_eq]
 exact ⟨fun h=>ByteArray.ext (Array.toList_inj.1 h),fun h=>by rw [h]⟩
theorem lk_name (h:nameOk x.nm.data.toList=false):¬ LkOk x:=fun k=>absurd (k.1.symm.trans h) (by decide)
theorem lk_ask (hn:nameOk x.nm.data.toList=true) (hh:x.has=false):LkOk x↔vr x.cd x.tx.data.toList=true:=by
 constructor
 · rintro ⟨_,⟨h,_⟩ | ⟨_,h⟩⟩
   · rw [hh] at h;cases h
   exact h
 exact fun h=>⟨hn,.inr ⟨hh,h⟩⟩
theorem lk_has (hn:nameOk x.nm.data.toList=true) (hh:x.has=true):LkOk x↔((x.cd=0/\x.tx.toList=[])\/(x.cd=4/\x.tx.toList=x.nm.toList)):=by
 rw [ba_nil,ba_iff]
 constructor
 · rintro ⟨_,⟨_,h⟩ | ⟨h,_⟩⟩
   · exact h
   rw [hh] at h;cases h
 exact fun h=>⟨hn,.inl ⟨hh,h⟩⟩
theorem c113 (x:L4) (w:World) (hs:x.le 1048600):
 Calls prog 113 #[.agg #[.bool x.has,.string x.nm,.int .i64 x.cd,.string x.tx]] w fun e w'=>IsB (LkOk x) e/\Below w.heap.size w w':=by
 obtain ⟨s1,s2⟩:=hs
 have hB0:∀ o,Below w.heap.size w (w.alloc o):=fun o=>(Below.refl _ _).alloc (Nat.le_refl _) _
 cases hn:nameOk x.nm.data.toList
 · have HN:Hid (IsB (LkOk x) (.returned (.bool false))):=isB_no (lk_name hn)
   go_enter func113,ntmps113
   go_wp2_with fail
   refine (c15 x.nm _ (by omega)).mono ?_
   rintro e w1 ⟨rfl,hw⟩
   obtain rfl:=hw.symm
   rw [hn]
   go_wp2
   go_ret
   exact ⟨HN.out,hB0 _⟩
 cases hh:x.has
 · have HE:Hid (LkOk x↔vr x.cd x.tx.data.toList=true):=lk_ask hn hh
   go_enter func113,ntmps113
   go_wp2_with fail
   refine (c15 x.nm _ (by omega)).mono ?_
   rintro e w1 ⟨rfl,hw⟩
   obtain rfl:=hw.symm
   rw [hn]
   go_wp2_with fail
   refine (c115 x.cd x.tx _ (by omega)).mono ?_
   rintro e w2 ⟨rfl,hb2⟩
   have hB2:Below w.heap.size w w2:=(hB0 _).trans (hb2.mono (by simp))
   go_wp2
   go_ret
   exact ⟨⟨_,rfl,HE.out.symm⟩,hB2⟩
 have HE:Hid (LkOk x↔((x.cd=0/\x.tx.toList=[])\/(x.cd=4/\x.tx.toList=x.nm.toList))):=lk_has hn hh
 skip
 all_goals
  go_enter func113,ntmps113
  go_wp2_with fail
  refine (c15 x.nm _ (by omega)).mono ?_
  rintro e w1 ⟨rfl,hw⟩
  obtain rfl:=hw.symm
  rw [hn]
  go_wp2
  all_goals go_ret
  all_goals first
   | exact ⟨isB_yes (HE.out.2 (by simp [*])),hB0 _⟩
   | exact ⟨isB_no (fun h=>by have:=HE.out.1 h;simp [*] at this),hB0 _⟩
   | exact ⟨isB_yes (HE.out.2 (by simp [*])),(hB0 _).alloc (by simp) _⟩
   | exact ⟨isB_no (fun h=>by have:=HE.out.1 h;simp [*] at this),(hB0 _).alloc (by simp) _⟩
def LksOk (ls:List L4):Prop:=ls.length<=15/\∀ i,i<ls.length->LkOk (ls.getD i l4z)
theorem c84 (a:Option Addr) (cap:Nat) (ls:List L4) (w:World) (hl:ls.length<=1048576) (hs:∀ i,(ls.getD i l4z).le 1048576) (hat:LksAt w a ls):
 Calls prog 84 #[.slice a ls.length cap] w fun e w'=>IsB (LksOk ls) e/\Below w.heap.size w w':=by
 obtain ⟨b,off,hc⟩:=lks_some hat
 have HC:Hid (ls=[]\/(a=some ⟨b,off,none⟩/\b<w.heap.size/\∀ i,i<ls.length->w.cell? ⟨b,off+i*4,none⟩=some (.bool (ls.getD i l4z).has)/\w.cell? ⟨b,off+i*4+1,none⟩=some (.string (ls.getD i l4z).nm)/\w.cell? ⟨b,off+i*4+2,none⟩=some (.int .i64 (ls.getD i l4z).cd)/\w.cell? ⟨b,off+i*4+3,none⟩=some (.string (ls.getD i l4z).tx))):=hc
 have HS:Hid (∀ i,(ls.getD i l4z).le 1048576):=hs
 clear hc hat hs
 by_cases hbig:15<ls.length
 · have HN:Hid (IsB (LksOk ls) (.returned (.bool false))):=isB_no (fun h=>by have:=h.1;omega)
   go_enter func84,ntmps84
   go_wp2
   go_ret
   exact ⟨HN.out,Below.refl _ _⟩
 go_enter func84,ntmps84
 go_wp2_with fail
 go_loopw [3] (fun vi wr=>∃ k:Nat,k<=ls.length/\vi=.int .i64 k/\Below w.heap.size w wr/\Hid (∀ j,j<k->LkOk (ls.getD j l4z))) (fun vi _=>ls.length - (intOf vi).toNat)
 case atStart=>exact ⟨0,Nat.zero_le _,rfl,Below.refl _ _,fun j h=>absurd h (Nat.not_lt_zero _)⟩
 obtain ⟨k,hk,rfl,hb,hdone⟩:=hrel
 by_cases hlt:k<ls.length
 rotate_left
 · have hyes:Hid (IsB (LksOk ls) (.returned (.bool true))):=isB_yes ⟨by omega,fun j hj=>hdone.out j (by omega)⟩
   go_wp2
   go_ret
   exact ⟨hyes.out,hb⟩
 rcases HC.out with hss | ⟨ha,hbw,hcell⟩
 · rw [hss] at hlt;exact absurd hlt (Nat.not_lt_zero _)
 subst ha
 obtain ⟨g0,g1,g2,g3⟩:=hcell k hlt
 have g0:=(hb.cell (p:=⟨b,off+k*4,none⟩) hbw).trans g0
 have g1:=(hb.cell (p:=⟨b,off+k*4+1,none⟩) hbw).trans g1
 have g2:=(hb.cell (p:=⟨b,off+k*4+2,none⟩) hbw).trans g2
 have g3:=(hb.cell (p:=⟨b,off+k*4+3,none⟩) hbw).trans g3
 have hxs:=HS.out k
 have HN:Hid (¬ LkOk (ls.getD k l4z)->IsB (LksOk ls) (.returned (.bool false))):=fun h=>isB_no fun d=>h (d.2 k hlt)
 have HY:Hid (LkOk (ls.getD k l4z)->∀ j,j<k+1->LkOk (ls.getD j l4z)):=fun h j hj=>by
  rcases Nat.lt_or_ge j k with h1 | h1
  · exact hdone.out j h1
  obtain rfl:j=k:=by omega
  exact h
 generalize ls.getD k l4z=x at*
 clear hcell
 go_wp2_with fail
 refine (c113 x wr ⟨by have:=hxs.1;omega,by have:=hxs.2;omega⟩).mono ?_
 rintro e w1 ⟨⟨r,rfl,hr⟩,hb1⟩
 have hB1:Below w.heap.size w w1:=hb.trans (hb1.mono hb.size)
 cases r
 · have hno:Hid (IsB (LksOk ls) (.returned (.bool false))):=HN.out fun h=>absurd (hr.2 h) Bool.false_ne_true
   clear hr
   go_wp2
   go_ret
   exact ⟨hno.out,hB1⟩
 have hyes:Hid (∀ j,j<k+1->LkOk (ls.getD j l4z)):=HY.out (hr.1 rfl)
 clear hr
 go_wp2
 go_roundw
 case rel=>exact ⟨k+1,by omega,by go_num,hB1,hyes⟩
 case measure=>simp [intOf];omega
end Go.Proofs.YthfmmimmfcnhmaaGreatDoor.M
