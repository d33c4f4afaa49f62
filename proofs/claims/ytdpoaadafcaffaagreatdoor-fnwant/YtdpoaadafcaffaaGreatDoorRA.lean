import Derived.Test.YtdpoaadafcaffaaGreatDoorT9
set_option maxHeartbeats 8000000
set_option maxRecDepth 100000
namespace Go.Proofs.YtdpoaadafcaffaaGreatDoor
open Proofs.Tryz
open Go.RowKit
variable {a b:Int} {l:List UInt8}
theorem Qc (h:a=b):Ending.returned (.int .i64 a)=.returned (.int .i64 b):=by rw [h]
theorem Cr (s:ByteArray) (h:1<=s.size):s.data.toList.isEmpty=false:=by
 cases hl:s.data.toList with
 | nil=>have:s.data.toList.length=s.size:=U0
        rw [hl] at this;simp at this;omega
 | cons a r=>rfl
theorem xg {x y:Bool} (h:a=b) (h':x=y):Ending.returned (.tuple #[.int .i64 a,.bool x])=.returned (.tuple #[.int .i64 b,.bool y]):=by rw [h,h']
def Ud (l:List UInt8):Int:=if Q7 l=true then val l else 0
theorem zt (h:Za l=false):Q7 l=false:=by simp [Q7,h]
theorem jv (h:l.all E9=false):Q7 l=false:=by simp only [Q7,h,Bool.and_false,Bool.false_and]
theorem sD (k:Nat) (h:40<val (l.take k)):Q7 l=false:=by
 by_cases ha:l.all E9=true
 · have:=Ht l ha k
   have hd:decide (val l<=40)=false:=by simp only [decide_eq_false_iff_not];omega
   simp only [Q7,hd,Bool.and_false]
 exact jv (by simpa using ha)
theorem Zu (h:Q7 l=false):Ud l=0:=by simp [Ud,h]
theorem ku (h:Q7 l=true):Ud l=val l:=by simp [Ud,h]
theorem Cx (s:ByteArray) (h:0<s.size):s.data.toList.headD 0=s[0]:=by
 have e:s.data.toList=s[0]::s.data.toList.tail:=by
  have hl:s.data.toList.length=s.size:=U0
  cases hd:s.data.toList with
  | nil=>rw [hd] at hl;simp at hl;omega
  | cons a r=>
   simp only [List.tail_cons]
   congr 1
   have:s[0]=s.data.toList[0]'(by simpa using h):=by simp [ByteArray.getElem_eq_getElem_data]
   rw [this];simp [hd]
 rw [e];rfl
theorem c93 (s:ByteArray) (w:World) (hs:s.size<=1048700):
 Calls prog 93 #[.string s,.int .i64 40] w fun e w'=>e=.returned (.tuple #[.int .i64 (Ud s.data.toList),.bool (Q7 s.data.toList)])/\w'=w:=by
 by_cases h0:s.size=0
 · have e0:s.toList=[]:=by
    rw [ByteArray.toList_eq];exact List.length_eq_zero_iff.1 (by simpa using h0)
   have hN:Hid (Q7 s.data.toList=false):=zt (by rw [<- ByteArray.toList_eq,e0];rfl);go_enter func93,ntmps93;go_wp2;go_ret2;exact ⟨xg (Zu hN.out).symm hN.out.symm,rfl⟩
 have e0:s.toList.isEmpty=false:=by rw [ByteArray.toList_eq];exact Cr s O0
 have e1:¬ s.toList=[]:=fun h=>by rw [h] at e0;cases e0
 have hp:0<s.size:=O0;have hh:=Cx s hp;by_cases hl:Za s.data.toList=true;rotate_left
 · have hN:=Q0 (zt (by simpa using hl))
   have h48:s[0].toNat=48/\¬ s.toList=[48]:=by
    rw [ByteArray.toList_eq] at e1 ⊢;rw [Kj,hh] at hl;by_cases h1:s[0]=48
    · refine ⟨by rw [h1];rfl,fun hz=>hl ⟨e1,fun _=>hz⟩⟩
    exact absurd ⟨e1,fun h=>absurd h h1⟩ hl
   obtain ⟨h48,hz⟩:=h48;have hz':(!s.toList==[48])=true:=by simpa using hz
   clear hh hl;go_enter func93,ntmps93;go_wp2;go_ret2;exact ⟨xg (Zu hN.out).symm hN.out.symm,rfl⟩
 have HL:=Q0 hl;have hc:(s[0].toNat=48/\s.toList=[48])\/((s[0].toNat:Int)==48)=false:=by
  by_cases h48:s[0].toNat=48
  · refine .inl ⟨h48,?_⟩
    have h1:s[0]=48:=UInt8.toNat_inj.1 h48;rw [ByteArray.toList_eq];exact ((Kj _).1 hl).2 (by rw [hh];exact h1)
  exact .inr X3
 clear hl hh;rcases hc with ⟨h48,hz⟩ | h48
 all_goals
  go_enter func93,ntmps93;go_wp2;go_loop [6,21] (fun n i=>∃ k:Nat,k<=s.size/\i=.int .i64 k/\n=.int .i64 (val (s.data.toList.take k))/\0<=val (s.data.toList.take k)/\val (s.data.toList.take k)<=40/\Hid ((s.data.toList.take k).all E9=true)) (fun _ i=>s.size - (intOf i).toNat)
  case atStart=>exact ⟨0,Nat.zero_le _,rfl,rfl,by simp [val],by simp [val],rfl⟩
  obtain ⟨k,hk,rfl,rfl,hv0,hv1,ha⟩:=hrel;by_cases hlt:k<s.size;rotate_left
  · have hall:=Z_ _ s k O0 ha.out
    have hE:s.data.toList.take k=s.data.toList:=List.take_of_length_le X3;have hN:=Q0 (Wo HL.out hall (by rw [<- hE];exact hv1));have HE:=Q0 hE;clear hall hE;go_wp2;go_ret2;exact ⟨xg (by rw [ku hN.out,HE.out]) hN.out.symm,rfl⟩
  by_cases hg:E9 s[k]=true
  · have hg':=(J_ _).1 hg
    have hw:=El _ hg';have ha':=Q0 (W_ _ s k hlt ha.out hg);have hvs:Hid (val (s.data.toList.take (k+1))=val (s.data.toList.take k)*10+((s[k].toNat:Int) - 48)):=by
     rw [o9 s k hlt];exact G_ _ _
    clear hg;by_cases hb:40<val (s.data.toList.take k)*10+((s[k].toNat:Int) - 48)
    · have hN:=Q0 (sD (k+1) (by rw [hvs.out];exact hb))
      go_wp2;go_ret2;exact ⟨xg (Zu hN.out).symm hN.out.symm,rfl⟩
    go_wp2
    go_round
    case rel=>exact ⟨k+1,O0,by go_num,by rw [hvs.out],by rw [hvs.out];omega,by rw [hvs.out];omega,ha'⟩
    case measure=>simp [intOf];omega
  have hN:=Q0 (jv (jb _ s k hlt (by simpa using hg)));have hg':(s[k].toNat:Int)<48\/57<(s[k].toNat:Int):=by
   rcases Int.lt_or_le (s[k].toNat:Int) 48 with h | h
   · exact .inl h
   rcases Int.lt_or_le 57 (s[k].toNat:Int) with h' | h'
   · exact .inr h'
   exact absurd ((J_ _).2 ⟨h,h'⟩) hg
  clear hg;rcases hg' with hg | hg
  all_goals
   go_wp2
   all_goals go_ret2
   all_goals exact ⟨xg (Zu hN.out).symm hN.out.symm,rfl⟩
theorem KJ (f:Nat):∀ (n:Int) (w:World),0<=n->n<=100000000->n.toNat<f->
 Calls prog 33 #[.int .i64 n] w fun e w'=>e=.returned (.string (K3 (dec n)))/\Below w.heap.size w w':=by
 induction f with
 | zero=>intro n w _ _ h;omega
 | succ f ih=>
  intro n w h0 h1 hf;have hcv:=Hr;have hcd:=fA;have hz:∀ y,(strOfNums [y]).size=1:=fun y=>strOfNums_size [y];by_cases h:n<10
  · go_enter func33,ntmps33
    go_wp2;go_ret;exact ⟨by rw [dec_lt n h];rfl,bA⟩
  have hq:(K3 (dec (n / 10))).size<=100000001:=by rw [Y2];exact Cv _ O0 O0
  have H:Hid (∀ w,Calls prog 33 #[.int .i64 (IntKind.i64.wrap (n.tdiv 10))] w fun e w'=>e=.returned (.string (K3 (dec (n / 10))))/\Below w.heap.size w w'):=by
   rw [dx n h0 h1];exact fun w=>ih (n / 10) w O0 O0 O0
  have HD:Hid (Ending.returned (.string (K3 (dec (n / 10))++strOfNums [48+n % 10]))=.returned (.string (K3 (dec n)))):=by
   rw [Ui n O0,<- Di];rfl
  clear ih;go_enter func33,ntmps33
  go_wp2_with fail
  go_region_with (go_at_call 33;refine (H.out _).mono ?_;rintro e w1 ⟨rfl,hb1⟩;(try (have hcb:=Oz hb1)))
  all_goals go_wp2
  all_goals go_ret
  all_goals refine ⟨?_,?_⟩
  all_goals first
   | exact HD.out
   | exact (((Below.refl w.heap.size w).drew).trans hb1).alloc hb1.size _
   | exact (((Below.refl w.heap.size w).alloc Q8 _).drew).trans (hb1.mono U0)
theorem c156 (s:ByteArray) (w:World) (hs:s.size<=1048700):
 Calls prog 156 #[.string s] w fun e w'=>e=.returned (.int .i64 (n29 s.data.toList))/\Below w.heap.size w w':=by
 by_cases h:1<=s.size/\s.size<=7;rotate_left
 · have hN:Hid (n29 s.data.toList=-1):=Jv (by simpa using h)
   by_cases h1:1<=s.size
   all_goals
    go_enter func156,ntmps156;go_wp2
    all_goals go_ret
    all_goals exact ⟨Qc hN.out.symm,Below.refl _ _⟩
 obtain ⟨h1,h2⟩:=h;go_enter func156,ntmps156;go_wp2;go_loop [3,4] (fun n i=>∃ k:Nat,k<=s.size/\i=.int .i64 k/\n=.int .i64 (val (s.data.toList.take k))/\0<=val (s.data.toList.take k)/\val (s.data.toList.take k)<=10000000/\Hid ((s.data.toList.take k).all E9=true)) (fun _ i=>s.size - (intOf i).toNat)
 case atStart=>exact ⟨0,Nat.zero_le _,rfl,rfl,by simp [val],by simp [val],rfl⟩
 obtain ⟨k,hk,rfl,rfl,hv0,hv1,ha⟩:=hrel;by_cases hlt:k<s.size
 · by_cases hg:E9 s[k]=true
   · have hg':=(J_ _).1 hg
     have hw:=El _ hg';have ha':=Q0 (W_ _ s k hlt ha.out hg);have hvs:Hid (val (s.data.toList.take (k+1))=val (s.data.toList.take k)*10+((s[k].toNat:Int) - 48)):=by
      rw [o9 s k hlt];exact G_ _ _
     have hb:=Q0 (Wn _ ha'.out X3);clear hg;go_wp2
     go_round
     case rel=>exact ⟨k+1,O0,by go_num,by rw [hvs.out],by rw [hvs.out];omega,hb.out,ha'⟩
     case measure=>simp [intOf];omega
   have hN:=Q0 (Qv (jb _ s k hlt (by simpa using hg)));have hg':(s[k].toNat:Int)<48\/57<(s[k].toNat:Int):=by
    rcases Int.lt_or_le (s[k].toNat:Int) 48 with h | h
    · exact .inl h
    rcases Int.lt_or_le 57 (s[k].toNat:Int) with h' | h'
    · exact .inr h'
    exact absurd ((J_ _).2 ⟨h,h'⟩) hg
   clear hg;rcases hg' with hg | hg
   all_goals
    go_wp2
    all_goals go_ret
    all_goals exact ⟨Qc hN.out.symm,Below.refl _ _⟩
 have hall:=Q0 (Z_ _ s k O0 ha.out);have hE:Hid (s.data.toList.take k=s.data.toList):=List.take_of_length_le X3
 go_wp2_with fail
 refine (KJ _ _ _ hv0 O0 (Nat.lt_succ_self _)).mono ?_;rintro e w1 ⟨rfl,hb1⟩;rw [hE.out];by_cases hd:dec (val s.data.toList)=s.data.toList
 · have hN:=Q0 (jl (by simpa using ⟨h1,h2⟩) hall.out hd)
   have hne:((K3 (dec (val s.data.toList))).toList==s.toList)=true:=by
    rw [hd,ByteArray.toList_eq,ByteArray.toList_eq];simp [K3]
   clear hd;go_wp2;go_ret;exact ⟨Qc hN.out.symm,hb1⟩
 have hN:=Q0 (iw hd);have hne:((K3 (dec (val s.data.toList))).toList==s.toList)=false:=by
  rw [ByteArray.toList_eq,ByteArray.toList_eq];simpa [K3] using hd
 clear hd;go_wp2;go_ret;exact ⟨Qc hN.out.symm,hb1⟩
end Go.Proofs.YtdpoaadafcaffaaGreatDoor
