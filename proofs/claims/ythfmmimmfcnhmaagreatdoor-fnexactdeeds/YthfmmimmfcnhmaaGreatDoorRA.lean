import Derived.Test.YthfmmimmfcnhmaaGreatDoorT9
import Derived.Test.YthfmmimmfcnhmaaGreatDoorZ00
set_option maxHeartbeats 8000000
set_option maxRecDepth 100000
namespace Go.Proofs.YthfmmimmfcnhmaaGreatDoor
open Proofs.Tryz
open Go.RowKit
variable {a b:Int} {l:List UInt8}
theorem ret_int (h:a=b):Ending.returned (.int .i64 a)=.returned (.int .i64 b):=by rw [h]
theorem str_isEmpty (s:ByteArray) (h:1<=s.size):s.data.toList.isEmpty=false:=by
 cases hl:s.data.toList with
 | nil=>have:s.data.toList.length=s.size:=by simp
        rw [hl] at this;simp at this;omega
 | cons a r=>rfl
theorem ret_pair {x y:Bool} (h:a=b) (h':x=y):Ending.returned (.tuple #[.int .i64 a,.bool x])=.returned (.tuple #[.int .i64 b,.bool y]):=by rw [h,h']
def rn40 (l:List UInt8):Int:=if num40 l=true then val l else 0
theorem n40_lean (h:lean1 l=false):num40 l=false:=by simp [num40,h]
theorem n40_dig (h:l.all isDig=false):num40 l=false:=by simp only [num40,h,Bool.and_false,Bool.false_and]
theorem n40_big (k:Nat) (h:40<val (l.take k)):num40 l=false:=by
 by_cases ha:l.all isDig=true
 · have:=val_take_le l ha k
   have hd:decide (val l<=40)=false:=by simp only [decide_eq_false_iff_not];omega
   simp only [num40,hd,Bool.and_false]
 exact n40_dig (by simpa using ha)
theorem rn_no (h:num40 l=false):rn40 l=0:=by simp [rn40,h]
theorem rn_yes (h:num40 l=true):rn40 l=val l:=by simp [rn40,h]
theorem head_zero (s:ByteArray) (h:0<s.size):s.data.toList.headD 0=s[0]:=by
 have e:s.data.toList=s[0]::s.data.toList.tail:=by
  have hl:s.data.toList.length=s.size:=by simp
  cases hd:s.data.toList with
  | nil=>rw [hd] at hl;simp at hl;omega
  | cons a r=>
   simp only [List.tail_cons]
   congr 1
   have:s[0]=s.data.toList[0]'(by simpa using h):=by simp [ByteArray.getElem_eq_getElem_data]
   rw [this]
   simp [hd]
 rw [e];rfl
theorem c154 (s:ByteArray) (w:World) (hs:s.size<=1048700):
 Calls prog 154 #[.string s,.int .i64 40] w fun e w'=>e=.returned (.tuple #[.int .i64 (rn40 s.data.toList),.bool (num40 s.data.toList)])/\w'=w:=by
 by_cases h0:s.size=0
 · have e0:s.toList=[]:=by
    rw [ByteArray.toList_eq]
    exact List.length_eq_zero_iff.1 (by simpa using h0)
   have hN:Hid (num40 s.data.toList=false):=n40_lean (by rw [<- ByteArray.toList_eq,e0];rfl)
   go_enter func154,ntmps154
   go_wp2
   go_ret2
   exact ⟨ret_pair (rn_no hN.out).symm hN.out.symm,rfl⟩
 have e0:s.toList.isEmpty=false:=by rw [ByteArray.toList_eq];exact str_isEmpty s (by omega)
 have e1:¬ s.toList=[]:=fun h=>by rw [h] at e0;cases e0
 have hp:0<s.size:=by omega
 have hh:=head_zero s hp
 by_cases hl:lean1 s.data.toList=true
 rotate_left
 · have hN:Hid (num40 s.data.toList=false):=n40_lean (by simpa using hl)
   have h48:s[0].toNat=48/\¬ s.toList=[48]:=by
    rw [ByteArray.toList_eq] at e1 ⊢
    rw [lean1_iff,hh] at hl
    by_cases h1:s[0]=48
    · refine ⟨by rw [h1];rfl,fun hz=>hl ⟨e1,fun _=>hz⟩⟩
    exact absurd ⟨e1,fun h=>absurd h h1⟩ hl
   obtain ⟨h48,hz⟩:=h48
   have hz':(!s.toList==[48])=true:=by simpa using hz
   clear hh hl
   go_enter func154,ntmps154
   go_wp2
   go_ret2
   exact ⟨ret_pair (rn_no hN.out).symm hN.out.symm,rfl⟩
 have HL:Hid (lean1 s.data.toList=true):=hl
 have hc:(s[0].toNat=48/\s.toList=[48])\/((s[0].toNat:Int)==48)=false:=by
  by_cases h48:s[0].toNat=48
  · refine .inl ⟨h48,?_⟩
    have h1:s[0]=48:=UInt8.toNat_inj.1 h48
    rw [ByteArray.toList_eq]
    exact ((lean1_iff _).1 hl).2 (by rw [hh];exact h1)
  exact .inr (by simp;omega)
 clear hl hh
 rcases hc with ⟨h48,hz⟩ | h48
 all_goals
  go_enter func154,ntmps154
  go_wp2
  go_loop [6,21] (fun n i=>∃ k:Nat,k<=s.size/\i=.int .i64 k/\n=.int .i64 (val (s.data.toList.take k))/\0<=val (s.data.toList.take k)/\val (s.data.toList.take k)<=40/\Hid ((s.data.toList.take k).all isDig=true)) (fun _ i=>s.size - (intOf i).toNat)
  case atStart=>exact ⟨0,Nat.zero_le _,rfl,rfl,by simp [val],by simp [val],rfl⟩
  obtain ⟨k,hk,rfl,rfl,hv0,hv1,ha⟩:=hrel
  by_cases hlt:k<s.size
  rotate_left
  · have hall:=all_take_size _ s k (by omega) ha.out
    have hE:s.data.toList.take k=s.data.toList:=List.take_of_length_le (by simp;omega)
    have hN:Hid (num40 s.data.toList=true):=n40_yes HL.out hall (by rw [<- hE];exact hv1)
    have HE:Hid (s.data.toList.take k=s.data.toList):=hE
    clear hall hE
    go_wp2
    go_ret2
    exact ⟨ret_pair (by rw [rn_yes hN.out,HE.out]) hN.out.symm,rfl⟩
  by_cases hg:isDig s[k]=true
  · have hg':=(dig_iff _).1 hg
    have hw:=byte_sub _ hg'
    have ha':Hid ((s.data.toList.take (k+1)).all isDig=true):=all_take_snoc _ s k hlt ha.out hg
    have hvs:Hid (val (s.data.toList.take (k+1))=val (s.data.toList.take k)*10+((s[k].toNat:Int) - 48)):=by
     rw [take_snoc s k hlt];exact val_snoc _ _
    clear hg
    by_cases hb:40<val (s.data.toList.take k)*10+((s[k].toNat:Int) - 48)
    · have hN:Hid (num40 s.data.toList=false):=n40_big (k+1) (by rw [hvs.out];exact hb)
      go_wp2
      go_ret2
      exact ⟨ret_pair (rn_no hN.out).symm hN.out.symm,rfl⟩
    go_wp2
    go_round
    case rel=>exact ⟨k+1,by omega,by go_num,by rw [hvs.out],by rw [hvs.out];omega,by rw [hvs.out];omega,ha'⟩
    case measure=>simp [intOf];omega
  have hN:Hid (num40 s.data.toList=false):=n40_dig (all_false_at _ s k hlt (by simpa using hg))
  have hg':(s[k].toNat:Int)<48\/57<(s[k].toNat:Int):=by
   rcases Int.lt_or_le (s[k].toNat:Int) 48 with h | h
   · exact .inl h
   rcases Int.lt_or_le 57 (s[k].toNat:Int) with h' | h'
   · exact .inr h'
   exact absurd ((dig_iff _).2 ⟨h,h'⟩) hg
  clear hg
  rcases hg' with hg | hg
  all_goals
   go_wp2
   all_goals go_ret2
   all_goals exact ⟨ret_pair (rn_no hN.out).symm hN.out.symm,rfl⟩
theorem c116g (f:Nat):∀ (n:Int) (w:World),0<=n->n<=100000000->n.toNat<f->
 Calls prog 116 #[.int .i64 n] w fun e w'=>e=.returned (.string (ofL (dec n)))/\Below w.heap.size w w':=by
 induction f with
 | zero=>intro n w _ _ h;omega
 | succ f ih=>
  intro n w h0 h1 hf
  have hcv:=conv1
  have hcd:=convD
  have hz:∀ y,(strOfNums [y]).size=1:=fun y=>strOfNums_size [y]
  by_cases h:n<10
  · go_enter func116,ntmps116
    go_wp2
    go_ret
    exact ⟨by rw [dec_lt n h];rfl,(Below.refl _ _).alloc (Nat.le_refl _) _⟩
  have hq:(ofL (dec (n / 10))).size<=100000001:=by rw [ofL_size];exact dec_len _ (by omega) (by omega)
  have H:Hid (∀ w,Calls prog 116 #[.int .i64 (IntKind.i64.wrap (n.tdiv 10))] w fun e w'=>e=.returned (.string (ofL (dec (n / 10))))/\Below w.heap.size w w'):=by
   rw [div_formB n h0 h1]
   exact fun w=>ih (n / 10) w (by omega) (by omega) (by omega)
  have HD:Hid (Ending.returned (.string (ofL (dec (n / 10))++strOfNums [48+n % 10]))=.returned (.string (ofL (dec n)))):=by
   rw [dec_ge n (by omega),<- ofL_snoc];rfl
  clear ih
  go_enter func116,ntmps116
  go_wp2_with fail
  go_region_with (go_at_call 116;refine (H.out _).mono ?_;rintro e w1 ⟨rfl,hb1⟩;(try (have hcb:=convB hb1)))
  all_goals go_wp2
  all_goals go_ret
  all_goals refine ⟨?_,?_⟩
  all_goals first
   | exact HD.out
   | exact (((Below.refl w.heap.size w).drew).trans hb1).alloc hb1.size _
   | exact (((Below.refl w.heap.size w).alloc (Nat.le_refl _) _).drew).trans (hb1.mono (by simp))
theorem c120 (s:ByteArray) (w:World) (hs:s.size<=1048700):
 Calls prog 120 #[.string s] w fun e w'=>e=.returned (.int .i64 (n29 s.data.toList))/\Below w.heap.size w w':=by
 by_cases h:1<=s.size/\s.size<=7
 rotate_left
 · have hN:Hid (n29 s.data.toList=-1):=n29_len (by simpa using h)
   by_cases h1:1<=s.size
   all_goals
    go_enter func120,ntmps120
    go_wp2
    all_goals go_ret
    all_goals exact ⟨ret_int hN.out.symm,Below.refl _ _⟩
 obtain ⟨h1,h2⟩:=h
 go_enter func120,ntmps120
 go_wp2
 go_loop [3,4] (fun n i=>∃ k:Nat,k<=s.size/\i=.int .i64 k/\n=.int .i64 (val (s.data.toList.take k))/\0<=val (s.data.toList.take k)/\val (s.data.toList.take k)<=10000000/\Hid ((s.data.toList.take k).all isDig=true)) (fun _ i=>s.size - (intOf i).toNat)
 case atStart=>exact ⟨0,Nat.zero_le _,rfl,rfl,by simp [val],by simp [val],rfl⟩
 obtain ⟨k,hk,rfl,rfl,hv0,hv1,ha⟩:=hrel
 by_cases hlt:k<s.size
 · by_cases hg:isDig s[k]=true
   · have hg':=(dig_iff _).1 hg
     have hw:=byte_sub _ hg'
     have ha':Hid ((s.data.toList.take (k+1)).all isDig=true):=all_take_snoc _ s k hlt ha.out hg
     have hvs:Hid (val (s.data.toList.take (k+1))=val (s.data.toList.take k)*10+((s[k].toNat:Int) - 48)):=by
      rw [take_snoc s k hlt];exact val_snoc _ _
     have hb:Hid (val (s.data.toList.take (k+1))<=10000000):=val_seven _ ha'.out (by simp;omega)
     clear hg
     go_wp2
     go_round
     case rel=>exact ⟨k+1,by omega,by go_num,by rw [hvs.out],by rw [hvs.out];omega,hb.out,ha'⟩
     case measure=>simp [intOf];omega
   have hN:Hid (n29 s.data.toList=-1):=n29_dig (all_false_at _ s k hlt (by simpa using hg))
   have hg':(s[k].toNat:Int)<48\/57<(s[k].toNat:Int):=by
    rcases Int.lt_or_le (s[k].toNat:Int) 48 with h | h
    · exact .inl h
    rcases Int.lt_or_le 57 (s[k].toNat:Int) with h' | h'
    · exact .inr h'
    exact absurd ((dig_iff _).2 ⟨h,h'⟩) hg
   clear hg
   rcases hg' with hg | hg
   all_goals
    go_wp2
    all_goals go_ret
    all_goals exact ⟨ret_int hN.out.symm,Below.refl _ _⟩
 have hall:Hid (s.data.toList.all isDig=true):=all_take_size _ s k (by omega) ha.out
 have hE:Hid (s.data.toList.take k=s.data.toList):=List.take_of_length_le (by simp;omega)
 go_wp2_with fail
 refine (c116g _ _ _ hv0 (by omega) (Nat.lt_succ_self _)).mono ?_
 rintro e w1 ⟨rfl,hb1⟩
 rw [hE.out]
 by_cases hd:dec (val s.data.toList)=s.data.toList
 · have hN:Hid (n29 s.data.toList=val s.data.toList):=n29_yes (by simpa using ⟨h1,h2⟩) hall.out hd
   have hne:((ofL (dec (val s.data.toList))).toList==s.toList)=true:=by
    rw [hd,ByteArray.toList_eq,ByteArray.toList_eq];simp [ofL]
   clear hd
   go_wp2
   go_ret
   exact ⟨ret_int hN.out.symm,hb1⟩
 have hN:Hid (n29 s.data.toList=-1):=n29_dec hd
 have hne:((ofL (dec (val s.data.toList))).toList==s.toList)=false:=by
  rw [ByteArray.toList_eq,ByteArray.toList_eq];simpa [ofL] using hd
 clear hd
 go_wp2
 go_ret
 exact ⟨ret_int hN.out.symm,hb1⟩
