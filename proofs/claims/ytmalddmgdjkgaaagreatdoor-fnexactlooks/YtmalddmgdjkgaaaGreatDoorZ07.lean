import Derived.Test.YtmalddmgdjkgaaaGreatDoorZ03
import Derived.Test.YtmalddmgdjkgaaaGreatDoorZ06
import Derived.Test.YtmalddmgdjkgaaaGreatDoorZ05
namespace Go.Proofs.YtmalddmgdjkgaaaGreatDoor
open Go.RowKit
theorem dec_small (n:Nat) (h:n<10):Lib.decDigits n=[UInt8.ofNat (48+n)]:=by rw [Lib.decDigits,dif_pos h]
theorem dec_two (n:Nat) (h:¬ n<10):Lib.decDigits n=Lib.decDigits (n / 10)++[UInt8.ofNat (48+n % 10)]:=by rw [Lib.decDigits,dif_neg h]
theorem conv1 (u:World) (y:Int):(convert 88 9 (.slice (some ⟨u.heap.size,0,none⟩) 1 1)).run Tryz.prog (u.alloc (.cells #[.int .u8 y] 5))=.ok (.string (strOfNums [y])) (u.alloc (.cells #[.int .u8 y] 5)):=
 run_convert_bytes_arg _ 88 5 Tryz.underlying88 Tryz.underlying5 _ 0 1 1 [y] rfl (fun i hi=>by
  obtain rfl:i=0:=by omega
  simp) 9 Tryz.underlying9
theorem convD (u:World) (y:Int):(convert 88 9 (.slice (some ⟨u.heap.size,0,none⟩) 1 1)).run Tryz.prog (u.alloc (.cells #[.int .u8 y] 5)).drew=.ok (.string (strOfNums [y])) (u.alloc (.cells #[.int .u8 y] 5)).drew:=
 run_convert_bytes_arg _ 88 5 Tryz.underlying88 Tryz.underlying5 _ 0 1 1 [y] rfl (fun i hi=>by
  obtain rfl:i=0:=by omega
  simp) 9 Tryz.underlying9
theorem convB {u w1:World} {y:Int} (hb:Below (u.alloc (.cells #[.int .u8 y] 5)).drew.heap.size (u.alloc (.cells #[.int .u8 y] 5)).drew w1):
 (convert 88 9 (.slice (some ⟨u.heap.size,0,none⟩) 1 1)).run Tryz.prog w1=.ok (.string (strOfNums [y])) w1:=
 run_convert_bytes_arg _ 88 5 Tryz.underlying88 Tryz.underlying5 _ 0 1 1 [y] rfl (fun i hi=>by
  obtain rfl:i=0:=by omega
  rw [hb.cell (by simp)]
  simp) 9 Tryz.underlying9
def ofL (l:List UInt8):ByteArray:=⟨l.toArray⟩
theorem ofL_size (l:List UInt8):(ofL l).size=l.length:=by simp [ofL,ByteArray.size]
theorem ofL_snoc (l:List UInt8) (x:Int):ofL l++strOfNums [x]=ofL (l++[UInt8.ofNat x.toNat]):=by
 apply ByteArray.ext
 simp [ofL,strOfNums]
set_option maxHeartbeats 400000 in
theorem c84_one (n:Nat) (w:World) (h:n<10):
 Calls Tryz.prog 84 #[.int .i64 n] w fun e w'=>e=.returned (.string (ofL (Lib.decDigits n)))∧Below w.heap.size w w':=by
 have hcv:=conv1
 have HD:Hid (Lib.decDigits n=[UInt8.ofNat (48+(n:Int)).toNat]):=by
  rw [show (48+(n:Int)).toNat=48+n by omega];exact dec_small n h
 go_enter Tryz.func84,Tryz.ntmps84
 go_wp2
 go_ret
 exact ⟨by rw [HD.out];rfl,(Below.refl _ _).alloc (Nat.le_refl _) _⟩
theorem div_form (n:Nat) (h1:n<100):IntKind.i64.wrap ((n:Int).tdiv 10)=((n / 10:Nat):Int):=by
 rw [Int.tdiv_eq_ediv_of_nonneg (by omega)]
 simp [IntKind.wrap,IntKind.signed,IntKind.bits];omega
theorem mod_form (n:Int) (h:0≤n):IntKind.u8.wrap (IntKind.i64.wrap (48+n.tmod 10))=48+n % 10:=by
 rw [Int.tmod_eq_emod_of_nonneg h]
 simp [IntKind.wrap,IntKind.signed,IntKind.bits];omega
set_option maxHeartbeats 400000 in
theorem c84_two (m:Nat) (n:Int) (w:World) (hm:Hid (n=(m:Int))) (h10:10≤n) (h:n<100):
 Calls Tryz.prog 84 #[.int .i64 n] w fun e w'=>e=.returned (.string (ofL (Lib.decDigits m)))∧Below w.heap.size w w':=by
 have hcv:=conv1
 have hcd:=convD
 have hz:∀ y,(strOfNums [y]).size=1:=fun y=>strOfNums_size [y]
 have hm':=hm.out
 have hq:(ofL (Lib.decDigits (m / 10))).size=1:=by rw [ofL_size,dec_small (m / 10) (by omega)];rfl
 have H:Hid (∀ w,Calls Tryz.prog 84 #[.int .i64 (IntKind.i64.wrap (n.tdiv 10))] w fun e w'=>e=.returned (.string (ofL (Lib.decDigits (m / 10))))∧Below w.heap.size w w'):=by
  rw [hm',div_form m (by omega)]
  exact fun w=>c84_one (m / 10) w (by omega)
 have HD:Hid (Ending.returned (.string (ofL (Lib.decDigits (m / 10))++strOfNums [48+n % 10]))=.returned (.string (ofL (Lib.decDigits m)))):=by
  rw [dec_two m (by omega),ofL_snoc]
  rw [show (48+n % 10).toNat=48+m % 10 by omega]
  rfl
 have HE:Hid (Ending.returned (.string (ofL (Lib.decDigits (m / 10))++strOfNums [IntKind.u8.wrap (IntKind.i64.wrap (48+n.tmod 10))]))=.returned (.string (ofL (Lib.decDigits m)))):=by
  rw [mod_form n (by omega)];exact HD.out
 clear hm'
 go_enter Tryz.func84,Tryz.ntmps84
 go_wp2_with fail
 go_region_with (go_at_call 84;refine (H.out _).mono ?_;rintro e w1 ⟨rfl,hb1⟩;(try (have hcb:=convB hb1)))
 all_goals go_wp2
 all_goals go_ret
 all_goals refine ⟨?_,?_⟩
 all_goals first
  | exact HD.out
  | exact HE.out
  | exact (((Below.refl w.heap.size w).drew).trans hb1).alloc hb1.size _
  | exact (((Below.refl w.heap.size w).alloc (Nat.le_refl _) _).drew).trans (hb1.mono (by simp))
theorem c84 (n:Nat) (w:World) (h:n<100):
 Calls Tryz.prog 84 #[.int .i64 n] w fun e w'=>e=.returned (.string (ofL (Lib.decDigits n)))∧Below w.heap.size w w':=by
 by_cases h10:n<10
 · exact c84_one n w h10
 exact c84_two n n w rfl (by omega) (by omega)
set_option maxHeartbeats 400000 in
theorem c29 (n l h:Int) (w:World):
 Calls Tryz.prog 29 #[.int .i64 n,.int .i64 l,.int .i64 h] w fun e w'=>e=.returned (.bool (decide (l≤n∧n≤h)))∧w'=w:=by
 by_cases h1:l≤n <;> by_cases h2:n≤h
 all_goals
  go_enter Tryz.func29,Tryz.ntmps29
  go_wp2
  all_goals go_ret
  all_goals exact ⟨by simp [*],rfl⟩
end Go.Proofs.YtmalddmgdjkgaaaGreatDoor
namespace Go.Proofs.YtmalddmgdjkgaaaGreatDoor.G
open Go.RowKit
theorem all_take_snoc (p:UInt8→Bool) (s:ByteArray) (k:Nat) (h:k<s.size) (ha:(s.data.toList.take k).all p=true) (hp:p s[k]=true):(s.data.toList.take (k+1)).all p=true:=by
 rw [take_snoc s k h,List.all_append,ha];simpa using hp
theorem all_false_at (p:UInt8→Bool) (s:ByteArray) (k:Nat) (h:k<s.size) (hp:p s[k]=false):s.data.toList.all p=false:=by
 rw [List.all_eq_false]
 exact ⟨s[k],by simp [ByteArray.getElem_eq_getElem_data],by simp [hp]⟩
theorem all_take_size (p:UInt8→Bool) (s:ByteArray) (k:Nat) (h:s.size≤k) (ha:(s.data.toList.take k).all p=true):s.data.toList.all p=true:=by
 rwa [List.take_of_length_le (by simpa using h)] at ha
set_option maxHeartbeats 400000 in
theorem c29 (n l h:Int) (w:World):
 Calls Tryz.prog 29 #[.int .i64 n,.int .i64 l,.int .i64 h] w fun e w'=>e=.returned (.bool (decide (l≤n∧n≤h)))∧w'=w:=by
 by_cases h1:l≤n <;> by_cases h2:n≤h
 all_goals
  go_enter Tryz.func29,Tryz.ntmps29
  go_wp2
  all_goals go_ret
  all_goals exact ⟨by simp [*],rfl⟩
theorem name_short (s:ByteArray) (h:¬ (1≤s.size∧s.size≤20)):nameOk s.data.toList=false:=by
 unfold nameOk
 have:(decide (1≤s.data.toList.length∧s.data.toList.length≤20))=false:=by
  simp only [decide_eq_false_iff_not];simpa using h
 rw [this];rfl
theorem name_long (s:ByteArray) (h:1≤s.size∧s.size≤20):nameOk s.data.toList=s.data.toList.all isGraph:=by
 unfold nameOk
 have:(decide (1≤s.data.toList.length∧s.data.toList.length≤20))=true:=by
  simp only [decide_eq_true_eq];simpa using h
 rw [this];rfl
set_option maxHeartbeats 400000 in
theorem c20 (s:ByteArray) (w:World) (hs:s.size≤1048700):
 Calls Tryz.prog 20 #[.string s] w fun e w'=>e=.returned (.bool (nameOk s.data.toList))∧w'=w:=by
 by_cases h:1≤s.size∧s.size≤20
 · have hN:Hid (nameOk s.data.toList=s.data.toList.all isGraph):=name_long s h
   obtain ⟨h1,h2⟩:=h
   go_enter Tryz.func20,Tryz.ntmps20
   go_wp2
   go_loop [14] (fun i=>∃ k:Nat,k≤s.size∧i=.int .i64 k∧Hid ((s.data.toList.take k).all isGraph=true)) (fun i=>s.size - (intOf i).toNat)
   case atStart=>exact ⟨0,Nat.zero_le _,rfl,rfl⟩
   case round=>
    obtain ⟨k,hk,rfl,ha⟩:=hrel
    by_cases hlt:k<s.size
    · by_cases hg:isGraph s[k]=true
      · have hg':=(graph_iff _).1 hg
        have hn:=Hid.out ha
        have ha':Hid ((s.data.toList.take (k+1)).all isGraph=true):=all_take_snoc _ s k hlt ha.out hg
        clear hg hn
        go_wp2
        go_round
        case rel=>exact ⟨k+1,by omega,by go_num,ha'⟩
        case measure=>simp [intOf];omega
      have hf:Hid (s.data.toList.all isGraph=false):=all_false_at _ s k hlt (by simpa using hg)
      have hg':(s[k].toNat:Int)<33∨126<(s[k].toNat:Int):=by
       rcases Int.lt_or_le (s[k].toNat:Int) 33 with h | h
       · exact .inl h
       rcases Int.lt_or_le 126 (s[k].toNat:Int) with h' | h'
       · exact .inr h'
       exact absurd ((graph_iff _).2 ⟨h,h'⟩) hg
      clear hg
      rcases hg' with hg | hg
      all_goals
       go_wp2
       all_goals go_ret
       all_goals exact ⟨ret_bool (by rw [hN.out,hf.out]),rfl⟩
    go_wp2
    go_ret
    exact ⟨ret_bool (by rw [hN.out,all_take_size _ s k (by omega) ha.out]),rfl⟩
 have hN:Hid (nameOk s.data.toList=false):=name_short s h
 by_cases h1:1≤s.size
 all_goals
  go_enter Tryz.func20,Tryz.ntmps20
  go_wp2
  all_goals go_ret
  all_goals exact ⟨ret_bool (by rw [hN.out]),rfl⟩
set_option maxHeartbeats 400000 in
theorem c15 (s:ByteArray) (w:World) (hs:s.size≤1048700):
 Calls Tryz.prog 15 #[.string s] w fun e w'=>e=.returned (.bool (nameOk s.data.toList))∧w'=w:=by
 by_cases h:1≤s.size∧s.size≤20
 · have hN:Hid (nameOk s.data.toList=s.data.toList.all isGraph):=name_long s h
   have hd:decide ((1:Int)≤(s.size:Int)∧(s.size:Int)≤20)=true:=by simp;omega
   go_enter Tryz.func15,Tryz.ntmps15
   go_wp2_with fail
   refine (c29 _ _ _ _).mono ?_
   rintro e w' ⟨rfl,rfl⟩
   rw [hd]
   go_wp2
   go_loop [3] (fun i=>∃ k:Nat,k≤s.size∧i=.int .i64 k∧Hid ((s.data.toList.take k).all isGraph=true)) (fun i=>s.size - (intOf i).toNat)
   case atStart=>exact ⟨0,Nat.zero_le _,rfl,rfl⟩
   case round=>
    obtain ⟨k,hk,rfl,ha⟩:=hrel
    by_cases hlt:k<s.size
    · by_cases hg:isGraph s[k]=true
      · have hg':=(graph_iff _).1 hg
        have ha':Hid ((s.data.toList.take (k+1)).all isGraph=true):=all_take_snoc _ s k hlt ha.out hg
        clear hg
        go_wp2
        go_round
        case rel=>exact ⟨k+1,by omega,by go_num,ha'⟩
        case measure=>simp [intOf];omega
      have hf:Hid (s.data.toList.all isGraph=false):=all_false_at _ s k hlt (by simpa using hg)
      have hg':(s[k].toNat:Int)<33∨126<(s[k].toNat:Int):=by
       rcases Int.lt_or_le (s[k].toNat:Int) 33 with h | h
       · exact .inl h
       rcases Int.lt_or_le 126 (s[k].toNat:Int) with h' | h'
       · exact .inr h'
       exact absurd ((graph_iff _).2 ⟨h,h'⟩) hg
      clear hg
      rcases hg' with hg | hg
      all_goals
       go_wp2
       all_goals go_ret
       all_goals exact ⟨ret_bool (by rw [hN.out,hf.out]),rfl⟩
    go_wp2
    go_ret
    exact ⟨ret_bool (by rw [hN.out,all_take_size _ s k (by omega) ha.out]),rfl⟩
 have hN:Hid (nameOk s.data.toList=false):=name_short s h
 have hd:decide ((1:Int)≤(s.size:Int)∧(s.size:Int)≤20)=false:=by simp only [decide_eq_false_iff_not];omega
 go_enter Tryz.func15,Tryz.ntmps15
 go_wp2_with fail
 refine (c29 _ _ _ _).mono ?_
 rintro e w' ⟨rfl,rfl⟩
 rw [hd]
 go_wp2
 go_ret
 exact ⟨ret_bool (by rw [hN.out]),rfl⟩
end Go.Proofs.YtmalddmgdjkgaaaGreatDoor.G
