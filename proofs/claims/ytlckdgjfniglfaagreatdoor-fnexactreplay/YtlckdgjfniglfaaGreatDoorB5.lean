import Derived.Test.YtlckdgjfniglfaaGreatDoorSI
import Derived.Test.YtlckdgjfniglfaaGreatDoorA4
import Derived.Deep.RegionWith
set_option linter.unusedVariables false
set_option maxHeartbeats 8000000
set_option maxRecDepth 100000
namespace Go.Proofs.YtlckdgjfniglfaaGreatDoor
open Proofs.Tryz
open Go.RowKit
theorem ret_bool {a b:Bool} (h:a=b):Ending.returned (.bool a)=.returned (.bool b):=by rw [h]
theorem all_take_snoc (p:UInt8->Bool) (s:ByteArray) (k:Nat) (h:k<s.size) (ha:(s.data.toList.take k).all p=true) (hp:p s[k]=true):(s.data.toList.take (k+1)).all p=true:=by
 rw [take_snoc s k h,List.all_append,ha];simpa using hp
theorem all_false_at (p:UInt8->Bool) (s:ByteArray) (k:Nat) (h:k<s.size) (hp:p s[k]=false):s.data.toList.all p=false:=by
 rw [List.all_eq_false];exact ⟨s[k],by simp [ByteArray.getElem_eq_getElem_data],by simp [hp]⟩
theorem all_take_size (p:UInt8->Bool) (s:ByteArray) (k:Nat) (h:s.size<=k) (ha:(s.data.toList.take k).all p=true):s.data.toList.all p=true:=by
 rwa [List.take_of_length_le (by simpa using h)] at ha
theorem name_short (s:ByteArray) (h:¬ (1<=s.size/\s.size<=20)):nameOk s.data.toList=false:=by
 unfold nameOk;have:(decide (1<=s.data.toList.length/\s.data.toList.length<=20))=false:=by
  simp only [decide_eq_false_iff_not];simpa using h
 rw [this];rfl
theorem name_long (s:ByteArray) (h:1<=s.size/\s.size<=20):nameOk s.data.toList=s.data.toList.all isGraph:=by
 unfold nameOk;have:(decide (1<=s.data.toList.length/\s.data.toList.length<=20))=true:=by
  simp only [decide_eq_true_eq];simpa using h
 rw [this];rfl
theorem c112 (s:ByteArray) (w:World) (hs:s.size<=1048700):
 Calls prog 112 #[.string s] w fun e w'=>e=.returned (.bool (nameOk s.data.toList))/\w'=w:=by
 by_cases h:1<=s.size/\s.size<=20
 · have hN:Hid (nameOk s.data.toList=s.data.toList.all isGraph):=name_long s h
   obtain ⟨h1,h2⟩:=h;go_enter func112,ntmps112;go_wp2;go_loop [14] (fun i=>∃ k:Nat,k<=s.size/\i=.int .i64 k/\Hid ((s.data.toList.take k).all isGraph=true)) (fun i=>s.size - (intOf i).toNat)
   case atStart=>exact ⟨0,Nat.zero_le _,rfl,rfl⟩
   case round=>
    obtain ⟨k,hk,rfl,ha⟩:=hrel;by_cases hlt:k<s.size
    · by_cases hg:isGraph s[k]=true
      · have hg':=(graph_iff _).1 hg
        have hn:=Hid.out ha;have ha':Hid ((s.data.toList.take (k+1)).all isGraph=true):=all_take_snoc _ s k hlt ha.out hg;clear hg hn;go_wp2
        go_round
        case rel=>exact ⟨k+1,om_,by go_num,ha'⟩
        case measure=>simp [intOf];omega
      · have hf:Hid (s.data.toList.all isGraph=false):=all_false_at _ s k hlt (by simpa using hg)
        have hg':(s[k].toNat:Int)<33\/126<(s[k].toNat:Int):=by
         rcases Int.lt_or_le (s[k].toNat:Int) 33 with h | h
         · exact .inl h
         · rcases Int.lt_or_le 126 (s[k].toNat:Int) with h' | h'
           · exact .inr h'
           · exact absurd ((graph_iff _).2 ⟨h,h'⟩) hg
        clear hg;rcases hg' with hg | hg
        all_goals
         go_wp2
         all_goals go_ret
         all_goals exact ⟨ret_bool (by rw [hN.out,hf.out]),rfl⟩
    · go_wp2
      go_ret;exact ⟨ret_bool (by rw [hN.out,all_take_size _ s k om_ ha.out]),rfl⟩
 · have hN:Hid (nameOk s.data.toList=false):=name_short s h
   by_cases h1:1<=s.size
   all_goals
    go_enter func112,ntmps112;go_wp2
    all_goals go_ret
    all_goals exact ⟨ret_bool (by rw [hN.out]),rfl⟩
theorem c62 (s:ByteArray) (w:World) (hs:s.size<=1048700):
 Calls prog 62 #[.string s] w fun e w'=>e=.returned (.bool (nameOk s.data.toList))/\w'=w:=by
 by_cases h:1<=s.size/\s.size<=20
 · have hN:Hid (nameOk s.data.toList=s.data.toList.all isGraph):=name_long s h
   have hd:decide ((1:Int)<=(s.size:Int)/\(s.size:Int)<=20)=true:=so_;go_enter func62,ntmps62
   go_wp2_with fail
   refine (c28 _ _ _ _).mono ?_;rintro e w' ⟨rfl,rfl⟩;rw [hd];go_wp2;go_loop [3] (fun i=>∃ k:Nat,k<=s.size/\i=.int .i64 k/\Hid ((s.data.toList.take k).all isGraph=true)) (fun i=>s.size - (intOf i).toNat)
   case atStart=>exact ⟨0,Nat.zero_le _,rfl,rfl⟩
   case round=>
    obtain ⟨k,hk,rfl,ha⟩:=hrel;by_cases hlt:k<s.size
    · by_cases hg:isGraph s[k]=true
      · have hg':=(graph_iff _).1 hg
        have ha':Hid ((s.data.toList.take (k+1)).all isGraph=true):=all_take_snoc _ s k hlt ha.out hg;clear hg;go_wp2
        go_round
        case rel=>exact ⟨k+1,om_,by go_num,ha'⟩
        case measure=>simp [intOf];omega
      · have hf:Hid (s.data.toList.all isGraph=false):=all_false_at _ s k hlt (by simpa using hg)
        have hg':(s[k].toNat:Int)<33\/126<(s[k].toNat:Int):=by
         rcases Int.lt_or_le (s[k].toNat:Int) 33 with h | h
         · exact .inl h
         · rcases Int.lt_or_le 126 (s[k].toNat:Int) with h' | h'
           · exact .inr h'
           · exact absurd ((graph_iff _).2 ⟨h,h'⟩) hg
        clear hg;rcases hg' with hg | hg
        all_goals
         go_wp2
         all_goals go_ret
         all_goals exact ⟨ret_bool (by rw [hN.out,hf.out]),rfl⟩
    · go_wp2
      go_ret;exact ⟨ret_bool (by rw [hN.out,all_take_size _ s k om_ ha.out]),rfl⟩
 · have hN:Hid (nameOk s.data.toList=false):=name_short s h
   have hd:decide ((1:Int)<=(s.size:Int)/\(s.size:Int)<=20)=false:=by simp only [decide_eq_false_iff_not];omega
   go_enter func62,ntmps62
   go_wp2_with fail
   refine (c28 _ _ _ _).mono ?_;rintro e w' ⟨rfl,rfl⟩;rw [hd];go_wp2;go_ret;exact ⟨ret_bool (by rw [hN.out]),rfl⟩
theorem str_isEmpty (s:ByteArray) (h:1<=s.size):s.data.toList.isEmpty=false:=by
 cases hl:s.data.toList with
 | nil=>
  have:s.data.toList.length=s.size:=sm_;rw [hl] at this;simp at this;omega
 | cons a r=>rfl
theorem ret_pair {a b:Int} {x y:Bool} (h:a=b) (h':x=y):Ending.returned (.tuple #[.int .i64 a,.bool x])=.returned (.tuple #[.int .i64 b,.bool y]):=by rw [h,h']
def rn40 (l:List UInt8):Int:=if num40 l=true then val l else 0
theorem lean1_iff (l:List UInt8):lean1 l=true↔l≠[]/\(l.headD 0=48->l=[48]):=by
 cases l with
 | nil=>simp [lean1]
 | cons a r=>
  by_cases h:a=48
  · simp [lean1,h]
  · simp [lean1,h]
theorem n40_lean {l:List UInt8} (h:lean1 l=false):num40 l=false:=by simp [num40,h]
theorem n40_dig {l:List UInt8} (h:l.all isDig=false):num40 l=false:=by simp only [num40,h,Bool.and_false,Bool.false_and]
theorem n40_big {l:List UInt8} (k:Nat) (h:40<val (l.take k)):num40 l=false:=by
 by_cases ha:l.all isDig=true
 · have:=val_take_le l ha k
   have hd:decide (val l<=40)=false:=by simp only [decide_eq_false_iff_not];omega
   simp only [num40,hd,Bool.and_false]
 · exact n40_dig (by simpa using ha)
theorem n40_yes {l:List UInt8} (h1:lean1 l=true) (h2:l.all isDig=true) (h3:val l<=40):num40 l=true:=by
 have hd:decide (val l<=40)=true:=by simpa using h3
 simp only [num40,h1,h2,hd,Bool.and_self]
theorem rn_no {l:List UInt8} (h:num40 l=false):rn40 l=0:=by simp [rn40,h]
theorem rn_yes {l:List UInt8} (h:num40 l=true):rn40 l=val l:=by simp [rn40,h]
theorem head_zero (s:ByteArray) (h:0<s.size):s.data.toList.headD 0=s[0]:=by
 have e:s.data.toList=s[0]::s.data.toList.tail:=by
  have hl:s.data.toList.length=s.size:=sm_
  cases hd:s.data.toList with
  | nil=>rw [hd] at hl;simp at hl;omega
  | cons a r=>
   simp only [List.tail_cons]
   congr 1
   have:s[0]=s.data.toList[0]'(by simpa using h):=by simp [ByteArray.getElem_eq_getElem_data]
   rw [this];simp [hd]
 rw [e];rfl
theorem byte_sub (c:UInt8) (h:48<=(c.toNat:Int)/\(c.toNat:Int)<=57):IntKind.u8.wrap ((c.toNat:Int) - 48)=(c.toNat:Int) - 48:=by
 simp [IntKind.wrap,IntKind.signed,IntKind.bits];omega
theorem c76 (s:ByteArray) (w:World) (hs:s.size<=1048700):
 Calls prog 76 #[.string s,.int .i64 40] w fun e w'=>e=.returned (.tuple #[.int .i64 (rn40 s.data.toList),.bool (num40 s.data.toList)])/\w'=w:=by
 by_cases h0:s.size=0
 · have e0:s.toList=[]:=by
    rw [ByteArray.toList_eq];exact List.length_eq_zero_iff.1 (by simpa using h0)
   have hN:Hid (num40 s.data.toList=false):=n40_lean (by rw [<- ByteArray.toList_eq,e0];rfl);go_enter func76,ntmps76;go_wp2;go_ret2;exact ⟨ret_pair (rn_no hN.out).symm hN.out.symm,rfl⟩
 · have e0:s.toList.isEmpty=false:=by rw [ByteArray.toList_eq];exact str_isEmpty s om_
   have e1:¬ s.toList=[]:=fun h=>by rw [h] at e0;cases e0
   have hp:0<s.size:=om_;have hh:=head_zero s hp;by_cases hl:lean1 s.data.toList=true
   · have HL:Hid (lean1 s.data.toList=true):=hl
     have hc:(s[0].toNat=48/\s.toList=[48])\/((s[0].toNat:Int)==48)=false:=by
      by_cases h48:s[0].toNat=48
      · refine .inl ⟨h48,?_⟩
        have h1:s[0]=48:=UInt8.toNat_inj.1 h48;rw [ByteArray.toList_eq];exact ((lean1_iff _).1 hl).2 (by rw [hh];exact h1)
      · exact .inr so_
     clear hl hh;rcases hc with ⟨h48,hz⟩ | h48
     all_goals
      go_enter func76,ntmps76;go_wp2;go_loop [6,21] (fun n i=>∃ k:Nat,k<=s.size/\i=.int .i64 k/\n=.int .i64 (val (s.data.toList.take k))/\0<=val (s.data.toList.take k)/\val (s.data.toList.take k)<=40/\Hid ((s.data.toList.take k).all isDig=true)) (fun _ i=>s.size - (intOf i).toNat)
      case atStart=>exact ⟨0,Nat.zero_le _,rfl,rfl,by simp [val],by simp [val],rfl⟩
      case round=>
       obtain ⟨k,hk,rfl,rfl,hv0,hv1,ha⟩:=hrel;by_cases hlt:k<s.size
       · by_cases hg:isDig s[k]=true
         · have hg':=(dig_iff _).1 hg
           have hw:=byte_sub _ hg';have ha':Hid ((s.data.toList.take (k+1)).all isDig=true):=all_take_snoc _ s k hlt ha.out hg;have hvs:Hid (val (s.data.toList.take (k+1))=val (s.data.toList.take k)*10+((s[k].toNat:Int) - 48)):=by
            rw [take_snoc s k hlt];exact val_snoc _ _
           clear hg;by_cases hb:40<val (s.data.toList.take k)*10+((s[k].toNat:Int) - 48)
           · have hN:Hid (num40 s.data.toList=false):=n40_big (k+1) (by rw [hvs.out];exact hb)
             go_wp2;go_ret2;exact ⟨ret_pair (rn_no hN.out).symm hN.out.symm,rfl⟩
           · go_wp2
             go_round
             case rel=>exact ⟨k+1,om_,by go_num,by rw [hvs.out],by rw [hvs.out];omega,by rw [hvs.out];omega,ha'⟩
             case measure=>simp [intOf];omega
         · have hN:Hid (num40 s.data.toList=false):=n40_dig (all_false_at _ s k hlt (by simpa using hg))
           have hg':(s[k].toNat:Int)<48\/57<(s[k].toNat:Int):=by
            rcases Int.lt_or_le (s[k].toNat:Int) 48 with h | h
            · exact .inl h
            · rcases Int.lt_or_le 57 (s[k].toNat:Int) with h' | h'
              · exact .inr h'
              · exact absurd ((dig_iff _).2 ⟨h,h'⟩) hg
           clear hg;rcases hg' with hg | hg
           all_goals
            go_wp2
            all_goals go_ret2
            all_goals exact ⟨ret_pair (rn_no hN.out).symm hN.out.symm,rfl⟩
       · have hall:=all_take_size _ s k om_ ha.out
         have hE:s.data.toList.take k=s.data.toList:=List.take_of_length_le so_;have hN:Hid (num40 s.data.toList=true):=n40_yes HL.out hall (by rw [<- hE];exact hv1);have HE:Hid (s.data.toList.take k=s.data.toList):=hE;clear hall hE;go_wp2;go_ret2;exact ⟨ret_pair (by rw [rn_yes hN.out,HE.out]) hN.out.symm,rfl⟩
   · have hN:Hid (num40 s.data.toList=false):=n40_lean (by simpa using hl)
     have h48:s[0].toNat=48/\¬ s.toList=[48]:=by
      rw [ByteArray.toList_eq] at e1 ⊢;rw [lean1_iff,hh] at hl;by_cases h1:s[0]=48
      · refine ⟨by rw [h1];rfl,fun hz=>hl ⟨e1,fun _=>hz⟩⟩
      · exact absurd ⟨e1,fun h=>absurd h h1⟩ hl
     obtain ⟨h48,hz⟩:=h48;have hz':(!s.toList==[48])=true:=by simpa using hz
     clear hh hl;go_enter func76,ntmps76;go_wp2;go_ret2;exact ⟨ret_pair (rn_no hN.out).symm hN.out.symm,rfl⟩
def ofL (l:List UInt8):ByteArray:=⟨l.toArray⟩
theorem ofL_size (l:List UInt8):(ofL l).size=l.length:=by simp [ofL,ByteArray.size]
theorem ofL_snoc (l:List UInt8) (x:Int):ofL (l++[UInt8.ofNat x.toNat])=ofL l++strOfNums [x]:=by
 apply ByteArray.ext;simp [ofL,strOfNums]
theorem convD (u:World) (y:Int):(convert 122 9 (.slice (some ⟨u.heap.size,0,none⟩) 1 1)).run prog (u.alloc (.cells #[.int .u8 y] 5)).drew=.ok (.string (strOfNums [y])) (u.alloc (.cells #[.int .u8 y] 5)).drew:=
 run_convert_bytes_arg _ 122 5 underlying122 underlying5 _ 0 1 1 [y] rfl (fun i hi=>by
  obtain rfl:i=0:=om_;simp) 9 underlying9
theorem convB {u w1:World} {y:Int} (hb:Below (u.alloc (.cells #[.int .u8 y] 5)).drew.heap.size (u.alloc (.cells #[.int .u8 y] 5)).drew w1):
 (convert 122 9 (.slice (some ⟨u.heap.size,0,none⟩) 1 1)).run prog w1=.ok (.string (strOfNums [y])) w1:=
 run_convert_bytes_arg _ 122 5 underlying122 underlying5 _ 0 1 1 [y] rfl (fun i hi=>by
  obtain rfl:i=0:=om_;rw [hb.cell sm_];simp) 9 underlying9
theorem c57 (f:Nat):∀ (n:Int) (w:World),0<=n->n<=100000000->n.toNat<f->
 Calls prog 57 #[.int .i64 n] w fun e w'=>e=.returned (.string (ofL (dec n)))/\Below w.heap.size w w':=by
 induction f with
 | zero=>intro n w _ _ h;omega
 | succ f ih=>
  intro n w h0 h1 hf;have hcv:=conv1;have hcd:=convD;have hz:∀ y,(strOfNums [y]).size=1:=fun y=>strOfNums_size [y];by_cases h:n<10
  · go_enter func57,ntmps57
    go_wp2;go_ret;exact ⟨by rw [dec_lt n h];rfl,bA_⟩
  · have hq:(ofL (dec (n / 10))).size<=100000001:=by rw [ofL_size];exact dec_len _ om_ om_
    have H:Hid (∀ w,Calls prog 57 #[.int .i64 (IntKind.i64.wrap (n.tdiv 10))] w fun e w'=>e=.returned (.string (ofL (dec (n / 10))))/\Below w.heap.size w w'):=by
     rw [div_form n h0 h1];exact fun w=>ih (n / 10) w om_ om_ om_
    have HD:Hid (Ending.returned (.string (ofL (dec (n / 10))++strOfNums [48+n % 10]))=.returned (.string (ofL (dec n)))):=by
     rw [dec_ge n om_,ofL_snoc];rfl
    clear ih;go_enter func57,ntmps57
    go_wp2_with fail
    go_region_with (go_at_call 57;refine (H.out _).mono ?_;rintro e w1 ⟨rfl,hb1⟩;(try (have hcb:=convB hb1)))
    all_goals go_wp2
    all_goals go_ret
    all_goals refine ⟨?_,?_⟩
    all_goals first
     | exact HD.out
     | exact (((Below.refl w.heap.size w).drew).trans hb1).alloc hb1.size _
     | exact (((Below.refl w.heap.size w).alloc lr_ _).drew).trans (hb1.mono sm_)
def n29 (l:List UInt8):Int:=if (1<=l.length/\l.length<=7)/\l.all isDig=true/\dec (val l)=l then val l else -1
theorem n29_len {l:List UInt8} (h:¬ (1<=l.length/\l.length<=7)):n29 l=-1:=by unfold n29;rw [if_neg (fun x=>h x.1)]
theorem n29_dig {l:List UInt8} (h:l.all isDig=false):n29 l=-1:=by unfold n29;rw [if_neg (fun x=>by rw [h] at x;cases x.2.1)]
theorem n29_dec {l:List UInt8} (h:dec (val l)≠l):n29 l=-1:=by unfold n29;rw [if_neg (fun x=>h x.2.2)]
theorem n29_yes {l:List UInt8} (h:1<=l.length/\l.length<=7) (h2:l.all isDig=true) (h3:dec (val l)=l):n29 l=val l:=by unfold n29;rw [if_pos ⟨h,h2,h3⟩]
theorem n29_num40 (l:List UInt8):decide (0<=n29 l/\n29 l<=40)=num40 l:=by
 by_cases h:num40 l=true
 · rw [h]
   have h':=h;simp only [num40,Bool.and_eq_true,decide_eq_true_eq] at h';obtain ⟨⟨h1,h2⟩,h3⟩:=h';have hl:=val_dig_len l h2 h1 h3;have hne:l≠[]:=((lean1_iff l).1 h1).1;have h1':1<=l.length:=List.length_pos_iff.2 hne;rw [n29_yes ⟨h1',om_⟩ h2 (dec_val l h2 h1).1];have:=val_nonneg l h2;simp only [decide_eq_true_eq];omega
 · have h':num40 l=false:=by simpa using h
   rw [h'];simp only [decide_eq_false_iff_not];intro ⟨a,b⟩;unfold n29 at a b;by_cases c:(1<=l.length/\l.length<=7)/\l.all isDig=true/\dec (val l)=l
   · rw [if_pos c] at a b
     have hd:=(dec_lean ((val l).toNat+1) (val l) a om_).1;rw [c.2.2] at hd;rw [n40_yes hd c.2.1 b] at h';cases h'
   · rw [if_neg c] at a
     omega
theorem val_bound (l:List UInt8) (h:l.all isDig=true):val l<10 ^ l.length:=by
 revert h;refine snoc_ind (P:=fun l=>l.all isDig=true->val l<10 ^ l.length) (by simp [val]) (fun l c ih h=>?_) l;rw [List.all_append] at h;simp only [List.all_cons,List.all_nil,Bool.and_true,Bool.and_eq_true] at h;have:=ih h.1;have hc:=(dig_iff c).1 h.2;rw [val_snoc,List.length_append,List.length_singleton,Int.pow_succ];omega
theorem val_seven (l:List UInt8) (h:l.all isDig=true) (hl:l.length<=7):val l<=10000000:=by
 have h1:=val_bound l h;have h2:(10:Int) ^ l.length<=10 ^ 7:=by exact_mod_cast Nat.pow_le_pow_right om_ hl
 omega
theorem c31 (s:ByteArray) (w:World) (hs:s.size<=1048700):
 Calls prog 31 #[.string s] w fun e w'=>e=.returned (.int .i64 (n29 s.data.toList))/\Below w.heap.size w w':=by
 by_cases h:1<=s.size/\s.size<=7
 · obtain ⟨h1,h2⟩:=h
   go_enter func31,ntmps31;go_wp2;go_loop [3,4] (fun n i=>∃ k:Nat,k<=s.size/\i=.int .i64 k/\n=.int .i64 (val (s.data.toList.take k))/\0<=val (s.data.toList.take k)/\val (s.data.toList.take k)<=10000000/\Hid ((s.data.toList.take k).all isDig=true)) (fun _ i=>s.size - (intOf i).toNat)
   case atStart=>exact ⟨0,Nat.zero_le _,rfl,rfl,by simp [val],by simp [val],rfl⟩
   case round=>
    obtain ⟨k,hk,rfl,rfl,hv0,hv1,ha⟩:=hrel;by_cases hlt:k<s.size
    · by_cases hg:isDig s[k]=true
      · have hg':=(dig_iff _).1 hg
        have hw:=byte_sub _ hg';have ha':Hid ((s.data.toList.take (k+1)).all isDig=true):=all_take_snoc _ s k hlt ha.out hg;have hvs:Hid (val (s.data.toList.take (k+1))=val (s.data.toList.take k)*10+((s[k].toNat:Int) - 48)):=by
         rw [take_snoc s k hlt];exact val_snoc _ _
        have hb:Hid (val (s.data.toList.take (k+1))<=10000000):=val_seven _ ha'.out so_;clear hg;go_wp2
        go_round
        case rel=>exact ⟨k+1,om_,by go_num,by rw [hvs.out],by rw [hvs.out];omega,hb.out,ha'⟩
        case measure=>simp [intOf];omega
      · have hN:Hid (n29 s.data.toList=-1):=n29_dig (all_false_at _ s k hlt (by simpa using hg))
        have hg':(s[k].toNat:Int)<48\/57<(s[k].toNat:Int):=by
         rcases Int.lt_or_le (s[k].toNat:Int) 48 with h | h
         · exact .inl h
         · rcases Int.lt_or_le 57 (s[k].toNat:Int) with h' | h'
           · exact .inr h'
           · exact absurd ((dig_iff _).2 ⟨h,h'⟩) hg
        clear hg;rcases hg' with hg | hg
        all_goals
         go_wp2
         all_goals go_ret
         all_goals exact ⟨ret_int hN.out.symm,Below.refl _ _⟩
    · have hall:Hid (s.data.toList.all isDig=true):=all_take_size _ s k om_ ha.out
      have hE:Hid (s.data.toList.take k=s.data.toList):=List.take_of_length_le so_
      go_wp2_with fail
      refine (c57 _ _ _ hv0 om_ (Nat.lt_succ_self _)).mono ?_;rintro e w1 ⟨rfl,hb1⟩;rw [hE.out];by_cases hd:dec (val s.data.toList)=s.data.toList
      · have hN:Hid (n29 s.data.toList=val s.data.toList):=n29_yes (by simpa using ⟨h1,h2⟩) hall.out hd
        have hne:((ofL (dec (val s.data.toList))).toList==s.toList)=true:=by
         rw [hd,ByteArray.toList_eq,ByteArray.toList_eq];simp [ofL]
        clear hd;go_wp2;go_ret;exact ⟨ret_int hN.out.symm,hb1⟩
      · have hN:Hid (n29 s.data.toList=-1):=n29_dec hd
        have hne:((ofL (dec (val s.data.toList))).toList==s.toList)=false:=by
         rw [ByteArray.toList_eq,ByteArray.toList_eq];simpa [ofL] using hd
        clear hd;go_wp2;go_ret;exact ⟨ret_int hN.out.symm,hb1⟩
 · have hN:Hid (n29 s.data.toList=-1):=n29_len (by simpa using h)
   by_cases h1:1<=s.size
   all_goals
    go_enter func31,ntmps31;go_wp2
    all_goals go_ret
    all_goals exact ⟨ret_int hN.out.symm,Below.refl _ _⟩
def vr (c:Int) (l:List UInt8):Bool:=
 if c=0\/c=1 then decide (l.length<=300) else if c=2 then num40 l else if c=3 then l.isEmpty else if c=4\/c=5\/c=7 then nameOk l else false
theorem num40_len {l:List UInt8} (h:num40 l=true):l.length<=2:=by
 simp only [num40,Bool.and_eq_true,decide_eq_true_eq] at h;exact val_dig_len l h.1.2 h.1.1 h.2
theorem vr_long {c:Int} {l:List UInt8} (h:300<l.length):vr c l=false:=by
 have h1:decide (l.length<=300)=false:=by simp only [decide_eq_false_iff_not];omega
 have h2:num40 l=false:=by
  by_cases h2:num40 l=true
  · have:=num40_len h2;omega
  · simpa using h2
 have h3:l.isEmpty=false:=by cases l with | nil=>simp at h | cons a r=>rfl
 have h4:nameOk l=false:=by
  unfold nameOk;have:decide (1<=l.length/\l.length<=20)=false:=by simp only [decide_eq_false_iff_not];omega
  rw [this];rfl
 unfold vr;rw [h1,h2,h3,h4];split <;> (try rfl)
 split <;> (try rfl)
 split <;> (try rfl)
 split <;> rfl
theorem c77 (c:Int) (s:ByteArray) (w:World) (hs:s.size<=1048700):
 Calls prog 77 #[.agg #[.int .i64 c,.string s]] w fun e w'=>e=.returned (.bool (vr c s.data.toList))/\Below w.heap.size w w':=by
 have hlen:s.data.toList.length=s.size:=sm_;by_cases h01:c=0\/c=1
 · have hV:Hid (vr c s.data.toList=decide ((s.size:Int)<=300)):=by unfold vr;rw [if_pos h01,hlen];simp [Hid];omega
   clear hlen;rcases h01 with rfl | rfl
   all_goals
    go_enter func77,ntmps77;go_wp2;go_ret;exact ⟨ret_bool (by rw [hV.out]),bA_⟩
 by_cases h2:c=2
 · subst h2
   have hV:Hid (vr 2 s.data.toList=num40 s.data.toList):=rfl;clear hlen h01;go_enter func77,ntmps77
   go_wp2_with fail
   refine (c76 _ _ hs).mono ?_;rintro e w1 ⟨rfl,rfl⟩;go_wp2;go_ret;exact ⟨ret_bool (by rw [hV.out]),bA_⟩
 by_cases h3:c=3
 · subst h3
   have hV:Hid (vr 3 s.data.toList=s.toList.isEmpty):=by rw [ByteArray.toList_eq];rfl
   clear hlen h01 h2;go_enter func77,ntmps77;go_wp2;go_ret;exact ⟨ret_bool (by rw [hV.out]),bA_⟩
 by_cases h4:c=4\/c=5\/c=7
 · have hV:Hid (vr c s.data.toList=nameOk s.data.toList):=by unfold vr;rw [if_neg h01,if_neg h2,if_neg h3,if_pos h4];rfl
   clear hlen h01 h2 h3;rcases h4 with rfl | rfl | rfl
   all_goals
    go_enter func77,ntmps77
    go_wp2_with fail
    refine (c112 _ _ hs).mono ?_;rintro e w1 ⟨rfl,rfl⟩;go_wp2;go_ret;exact ⟨ret_bool (by rw [hV.out]),bA_⟩
 · have hV:Hid (vr c s.data.toList=false):=by unfold vr;rw [if_neg h01,if_neg h2,if_neg h3,if_neg h4];rfl
   have e0:(c==0)=false:=so_;have e1:(c==1)=false:=so_;have e2:(c==2)=false:=so_;have e3:(c==3)=false:=so_;have e4:(c==4)=false:=so_;have e5:(c==5)=false:=so_;have e7:(c==7)=false:=so_;clear hlen h01 h2 h3 h4;go_enter func77,ntmps77;go_wp2;go_ret;exact ⟨ret_bool (by rw [hV.out]),bA_⟩
end Go.Proofs.YtlckdgjfniglfaaGreatDoor
