import Derived.Test.YtlckdgjfniglfaaGreatDoorCM
import Derived.WalkKit
import Derived.Laws.BytesArg
import Derived.WalkSpells
import Derived.WalkLawsBesides
set_option linter.unusedVariables false
set_option maxHeartbeats 8000000
set_option maxRecDepth 100000
namespace Go.Proofs.YtlckdgjfniglfaaGreatDoor
open Proofs.Tryz
open Go.RowKit
def hstep (x:Int) (c:UInt8):Int:=IntKind.u64.wrap (bits BinOp.xor IntKind.u64 x (IntKind.u64.wrap (c.toNat:Int))*1099511628211)
def hsum (l:List UInt8):Int:=l.foldl hstep 14695981039346656037
theorem wrap_u64_range (x:Int):0<=IntKind.u64.wrap x/\IntKind.u64.wrap x<=18446744073709551615:=by
 simp [IntKind.wrap,IntKind.signed,IntKind.bits];omega
theorem hsum_range (l:List UInt8):0<=hsum l/\hsum l<=18446744073709551615:=by
 unfold hsum;rcases List.eq_nil_or_concat l with h | ⟨l',c,h⟩
 · subst h;simp
 · subst h;simp only [List.concat_eq_append,List.foldl_append,List.foldl_cons,List.foldl_nil];exact wrap_u64_range _
theorem hsum_snoc (l:List UInt8) (c:UInt8):hsum (l++[c])=hstep (hsum l) c:=by simp [hsum]
theorem take_snoc (s:ByteArray) (k:Nat) (h:k<s.size):s.data.toList.take (k+1)=s.data.toList.take k++[s[k]]:=by
 rw [List.take_succ_eq_append_getElem (by simpa using h)];rfl
def vAt (v:Int):Nat->Int
 | 0=>v
 | k+1=>vAt v k / 256
def outs (v:Int):Nat->List Int
 | 0=>[]
 | k+1=>(vAt v k % 256)::outs v k
theorem outs_length (v:Int) (k:Nat):(outs v k).length=k:=by induction k with
 | zero=>rfl
 | succ k ih=>simp [outs,ih]
theorem vAt_range (v:Int) (h0:0<=v) (h1:v<=18446744073709551615) (k:Nat):0<=vAt v k/\vAt v k<=18446744073709551615:=by
 induction k with
 | zero=>exact ⟨h0,h1⟩
 | succ k ih=>simp only [vAt];omega
theorem str_cons (x:Int) (l:List Int):strOfNums [x]++strOfNums l=strOfNums (x::l):=by
 apply ByteArray.ext;simp [strOfNums]
def kc (X:Int) (k j:Nat):Int:=if 8<=j+k then vAt X (7 - j) % 256 else 0
theorem kc_zero (X:Int) (j:Nat) (_h:j<8):kc X 0 j=0:=by unfold kc;rw [if_neg om_]
theorem kc_same (X:Int) (k:Nat) (h:k<8):kc X (k+1) (7 - k)=vAt X k % 256:=by
 unfold kc;rw [if_pos om_];congr 2;omega
theorem kc_other (X:Int) (k j:Nat) (_h:k<8) (_hj:j<8) (hne:j≠7 - k):kc X (k+1) j=kc X k j:=by
 unfold kc;by_cases h1:8<=j+k
 · rw [if_pos om_,if_pos h1]
 · rw [if_neg om_,if_neg h1]
theorem outs_getD (X:Int) (k i:Nat) (h:i<k):(outs X k).getD i 0=vAt X (k - 1 - i) % 256:=by
 induction k generalizing i with
 | zero=>omega
 | succ k ih=>
  cases i with
  | zero=>simp [outs]
  | succ i=>
   simp only [outs,List.getD_cons_succ];rw [ih i om_]
   congr 2
   omega
theorem kc_outs (X:Int) (k i:Nat) (hk:k<=8) (h:i<k):kc X k (8 - k+i)=(outs X k).getD i 0:=by
 rw [outs_getD X k i h];unfold kc;rw [if_pos om_]
 congr 2
 omega
theorem ret_int {k:IntKind} {a b:Int} (h:a=b):Ending.returned (.int k a)=.returned (.int k b):=by rw [h]
theorem c143 (s:ByteArray) (w:World) (hs:s.size<=1048700):
 Calls prog 143 #[.string s] w fun e w'=>e=.returned (.int .u64 (hsum s.data.toList))/\w'=w:=by
 go_enter func143,ntmps143;go_wp2;go_loop [3,4] (fun v i=>∃ k:Nat,k<=s.size/\i=.int .i64 k/\v=.int .u64 (hsum (s.data.toList.take k))) (fun _ i=>s.size - (intOf i).toNat)
 case atStart=>exact ⟨0,Nat.zero_le _,rfl,rfl⟩
 case round=>
  obtain ⟨k,hk,rfl,rfl⟩:=hrel;have hx:=hsum_range (s.data.toList.take k);by_cases hlt:k<s.size
  · have HS:Hid (hsum (s.data.toList.take (k+1))=hstep (hsum (s.data.toList.take k)) s[k]):=by rw [take_snoc s k hlt];exact hsum_snoc _ _
    go_wp2
    go_round
    case rel=>exact ⟨k+1,om_,by go_num,by rw [HS.out];rfl⟩
    case measure=>simp [intOf];omega
  · go_wp2
    go_ret;exact ⟨ret_int (by rw [List.take_of_length_le so_]),rfl⟩
theorem c113 (s:ByteArray) (w:World) (hs:s.size<=1048700):
 Calls prog 113 #[.string s] w fun e w'=>e=.returned (.int .u64 (hsum s.data.toList))/\w'=w:=by
 go_enter func113,ntmps113;go_wp2;go_loop [3,7] (fun v i=>∃ k:Nat,k<=s.size/\i=.int .i64 k/\v=.int .u64 (hsum (s.data.toList.take k))) (fun _ i=>s.size - (intOf i).toNat)
 case atStart=>exact ⟨0,Nat.zero_le _,rfl,rfl⟩
 case round=>
  obtain ⟨k,hk,rfl,rfl⟩:=hrel;have hx:=hsum_range (s.data.toList.take k);by_cases hlt:k<s.size
  · have HS:Hid (hsum (s.data.toList.take (k+1))=hstep (hsum (s.data.toList.take k)) s[k]):=by rw [take_snoc s k hlt];exact hsum_snoc _ _
    go_wp2
    go_round
    case rel=>exact ⟨k+1,om_,by go_num,by rw [HS.out];rfl⟩
    case measure=>simp [intOf];omega
  · go_wp2
    go_ret;exact ⟨ret_int (by rw [List.take_of_length_le so_]),rfl⟩
theorem conv1 (u:World) (y:Int):(convert 122 9 (.slice (some ⟨u.heap.size,0,none⟩) 1 1)).run prog (u.alloc (.cells #[.int .u8 y] 5))=.ok (.string (strOfNums [y])) (u.alloc (.cells #[.int .u8 y] 5)):=
 run_convert_bytes_arg _ 122 5 underlying122 underlying5 _ 0 1 1 [y] rfl (fun i hi=>by
  obtain rfl:i=0:=om_;simp) 9 underlying9
theorem c142 (v:Int) (n:Nat) (w:World) (hv0:0<=v) (hv1:v<=18446744073709551615) (hn:n<=8):
 Calls prog 142 #[.int .u64 v,.int .i64 n] w fun e w'=>e=.returned (.string (strOfNums (outs v n)))/\Below w.heap.size w w':=by
 have hcv:=conv1;have hz:∀ y,(strOfNums [y]).size=1:=fun y=>strOfNums_size [y];go_enter func142,ntmps142;go_wp2;go_loopw [0,5,6] (fun a o i wr=>∃ k:Nat,k<=n/\i=.int .i64 k/\a=.int .u64 (vAt v k)/\o=.string (strOfNums (outs v k))/\Below w.heap.size w wr) (fun _ _ i _=>n - (intOf i).toNat)
 case atStart=>exact ⟨0,Nat.zero_le _,rfl,rfl,rfl,Below.refl _ _⟩
 case round=>
  obtain ⟨k,hk,rfl,rfl,rfl,hb⟩:=hrel;have hx:=vAt_range v hv0 hv1 k;have hq:(strOfNums (outs v k)).size=k:=by rw [strOfNums_size,outs_length]
  by_cases hlt:k<n
  · go_wp2
    go_roundw
    case rel=>exact ⟨k+1,om_,by go_num,rfl,by rw [str_cons];rfl,hb.alloc hb.size _⟩
    case measure=>simp [intOf];omega
  · go_wp2
    go_ret;obtain rfl:k=n:=om_;exact ⟨rfl,hb⟩
theorem c78 (s:ByteArray) (n:Nat) (w:World) (hn:n<=8) (hs:s.size<=1048700):
 Calls prog 78 #[.string s,.int .i64 n] w fun e w'=>(∃ X,X=hsum s.data.toList/\e=.returned (.agg #[.int .u8 (kc X n 0),.int .u8 (kc X n 1),.int .u8 (kc X n 2),.int .u8 (kc X n 3),.int .u8 (kc X n 4),.int .u8 (kc X n 5),.int .u8 (kc X n 6),.int .u8 (kc X n 7)]))/\Below w.heap.size w w':=by
 go_enter func78,ntmps78
 go_wp2_with fail
 refine (c113 _ _ hs).mono ?_;rintro e w' ⟨rfl,rfl⟩;have hx:=hsum_range s.data.toList;generalize hX:hsum s.data.toList=X at*;have HX:Hid (X=hsum s.data.toList):=hX.symm;clear hX
 go_wp2_with fail
 go_loopw [6,11] (fun a i wr=>∃ k:Nat,k<=n/\i=.int .i64 k/\a=.int .u64 (vAt X k)/\Below w.heap.size w wr/\w.heap.size+2<=wr.heap.size/\(∀ j,j<8->wr.cell? ⟨w.heap.size+1,j,none⟩=some (.int .u8 (kc X k j)))/\(∀ j,wr.frozen? ⟨w.heap.size+1,j,none⟩=false)/\(∀ j,j<8->wr.cell? ⟨w.heap.size,j,none⟩=some (.int .u8 0))/\(∀ j,wr.frozen? ⟨w.heap.size,j,none⟩=false)) (fun _ i _=>n - (intOf i).toNat)
 case atStart=>
  refine ⟨0,Nat.zero_le _,rfl,rfl,bA_.alloc sm_ _,sm_,?_,?_,?_,?_⟩
  · intro j hj
    rw [kc_zero X j hj];rcases j with _ | _ | _ | _ | _ | _ | _ | _ | j <;> first | omega | simp
  · intro j;simp
  · intro j hj
    rcases j with _ | _ | _ | _ | _ | _ | _ | _ | j <;> first | omega | simp
  · intro j;simp
 case round=>
  obtain ⟨k,hk,rfl,rfl,hb,hz,h1,f1,h0,f0⟩:=hrel;have hx:=vAt_range X hx.1 hx.2 k;by_cases hlt:k<n
  · have g1:=h1 (7 - k) om_
    have g2:=f1 (7 - k);go_wp2;go_roundw
    case rel=>
     refine ⟨k+1,om_,by go_num,rfl,hb.setCell sm_ _,by simpa using hz,?_,?_,?_,?_⟩
     · intro j hj
       by_cases e:j=7 - k
       · subst e
         rw [kc_same X k om_];exact World.cell?_setCell_same _ _ _ g1
       · rw [kc_other X k j om_ hj e,<- h1 j hj]
         exact World.cell?_setCell_other _ _ _ _ (by intro h;injection h with h1 h2;exact e h2.symm)
     · intro j;rw [<- f1 j];simp
     · intro j hj;rw [<- h0 j hj];exact World.cell?_setCell_other _ _ _ _ sm_
     · intro j;rw [<- f0 j];simp
    case measure=>simp [intOf];omega
  · have a0:=h1 0 om_
    have a1:=h1 1 om_;have a2:=h1 2 om_;have a3:=h1 3 om_;have a4:=h1 4 om_;have a5:=h1 5 om_;have a6:=h1 6 om_;have a7:=h1 7 om_;have b0:=h0 0 om_;have b1:=h0 1 om_;have b2:=h0 2 om_;have b3:=h0 3 om_;have b4:=h0 4 om_;have b5:=h0 5 om_;have b6:=h0 6 om_;have b7:=h0 7 om_;clear h1 h0;go_wp2;obtain rfl:k=n:=om_;refine bodyPost_ret (v:=.agg #[.int .u8 (kc X k 0),.int .u8 (kc X k 1),.int .u8 (kc X k 2),.int .u8 (kc X k 3),.int .u8 (kc X k 4),.int .u8 (kc X k 5),.int .u8 (kc X k 6),.int .u8 (kc X k 7)]) (by simp [results,Tryz.results78,go_sem,b0,b1,b2,b3,b4,b5,b6,b7]) rfl ⟨⟨X,HX.out,rfl⟩,?_⟩;have st:∀ (u:World) (j:Nat) (x:Value),Below w.heap.size w u->Below w.heap.size w (u.setCell ⟨w.heap.size,j,none⟩ x):=fun u j x h=>h.setCell lr_ x
    iterate 8 refine st _ _ _ ?_
    exact hb
def sumS (s:ByteArray) (n:Int):ByteArray:=if 1<=n/\n<=8 then strOfNums (outs (hsum s.data.toList) n.toNat) else ByteArray.empty
theorem c28 (n l h:Int) (w:World):
 Calls prog 28 #[.int .i64 n,.int .i64 l,.int .i64 h] w fun e w'=>e=.returned (.bool (decide (l<=n/\n<=h)))/\w'=w:=by
 by_cases h1:l<=n <;> by_cases h2:n<=h
 all_goals
  go_enter func28,ntmps28;go_wp2
  all_goals go_ret
  all_goals exact ⟨by simp [*],rfl⟩
theorem c13 (n:Int) (w:World):
 Calls prog 13 #[.int .i64 n] w fun e w'=>e=.returned (.bool (decide (1<=n/\n<=8)))/\w'=w:=by
 go_enter func13,ntmps13
 go_wp2_with (go_at_call 28;refine (c28 _ _ _ _).mono ?_;rintro e w' ⟨rfl,rfl⟩)
 go_ret;exact ⟨sm_,rfl⟩
theorem c16 (n:Int) (w:World):
 Calls prog 16 #[.int .i64 n] w fun e w'=>e=.returned (.bool (decide (1<=n/\n<=8)))/\w'=w:=by
 by_cases h1:1<=n <;> by_cases h2:n<=8
 all_goals
  go_enter func16,ntmps16;go_wp2
  all_goals go_ret
  all_goals exact ⟨by simp [*],rfl⟩
theorem c109 (s:ByteArray) (n:Int) (w:World) (hs:s.size<=1048700):
 Calls prog 109 #[.string s,.int .i64 n] w fun e w'=>e=.returned (.string (sumS s n))/\Below w.heap.size w w':=by
 by_cases h:1<=n/\n<=8
 · have hd:decide (1<=n/\n<=8)=true:=by simpa using h
   have hx:=hsum_range s.data.toList;obtain ⟨k,rfl⟩:=Int.eq_ofNat_of_zero_le (show 0<=n by omega);have hS:Hid (sumS s k=strOfNums (outs (hsum s.data.toList) k)):=by unfold sumS;rw [if_pos h];rfl
   go_enter func109,ntmps109
   go_wp2_with fail
   refine (c13 _ _).mono ?_;rintro e w' ⟨rfl,rfl⟩;rw [hd]
   go_wp2_with fail
   refine (c143 _ _ hs).mono ?_;rintro e w' ⟨rfl,rfl⟩
   go_wp2_with fail
   refine (c142 _ _ _ hx.1 hx.2 om_).mono ?_;rintro e w' ⟨rfl,hb⟩;go_wp2;go_ret;exact ⟨by rw [hS.out];rfl,hb⟩
 · have hd:decide (1<=n/\n<=8)=false:=by simpa using h
   have hS:Hid (sumS s n=ByteArray.empty):=by unfold sumS;rw [if_neg h];rfl
   go_enter func109,ntmps109
   go_wp2_with fail
   refine (c13 _ _).mono ?_;rintro e w' ⟨rfl,rfl⟩;rw [hd];go_wp2;go_ret;exact ⟨by rw [hS.out];rfl,Below.refl _ _⟩
theorem sl50 (u:World) (b k:Nat) (h1:1<=k) (h2:k<=8):
 (Instr.sliceAt 147 (.pointer (some ⟨b,0,none⟩)) (some (.int .i64 (8 - (k:Int)))) none none).run prog u=.ok (.slice (some ⟨b,8 - k,none⟩) k k) u:=by
 obtain rfl | rfl | rfl | rfl | rfl | rfl | rfl | rfl:k=1\/k=2\/k=3\/k=4\/k=5\/k=6\/k=7\/k=8:=om_
 all_goals kernel_rfl
theorem cvKey (u:World) (X:Int) (k:Nat) (h2:k<=8):
 (convert 122 9 (.slice (some ⟨u.heap.size,8 - k,none⟩) k k)).run prog (u.alloc (.cells #[.int .u8 (kc X k 0),.int .u8 (kc X k 1),.int .u8 (kc X k 2),.int .u8 (kc X k 3),.int .u8 (kc X k 4),.int .u8 (kc X k 5),.int .u8 (kc X k 6),.int .u8 (kc X k 7)] 147))
  =.ok (.string (strOfNums (outs X k))) (u.alloc (.cells #[.int .u8 (kc X k 0),.int .u8 (kc X k 1),.int .u8 (kc X k 2),.int .u8 (kc X k 3),.int .u8 (kc X k 4),.int .u8 (kc X k 5),.int .u8 (kc X k 6),.int .u8 (kc X k 7)] 147)):=
 run_convert_bytes_arg _ 122 5 underlying122 underlying5 _ (8 - k) k k (outs X k) (outs_length X k) (fun i hi=>by
  rw [<- kc_outs X k i h2 hi];have hj:8 - k+i<8:=om_;generalize 8 - k+i=j at hj ⊢;obtain rfl | rfl | rfl | rfl | rfl | rfl | rfl | rfl:j=0\/j=1\/j=2\/j=3\/j=4\/j=5\/j=6\/j=7:=om_
  all_goals simp) 9 underlying9
theorem c40 (s:ByteArray) (n:Int) (w:World) (hs:s.size<=1048700):
 Calls prog 40 #[.string s,.int .i64 n] w fun e w'=>e=.returned (.string (sumS s n))/\Below w.heap.size w w':=by
 by_cases h:1<=n/\n<=8
 · have hd:decide (1<=n/\n<=8)=true:=by simpa using h
   have hx:=hsum_range s.data.toList;obtain ⟨k,rfl⟩:=Int.eq_ofNat_of_zero_le (show 0<=n by omega);have hS:Hid (sumS s k=strOfNums (outs (hsum s.data.toList) k)):=by unfold sumS;rw [if_pos h];rfl
   go_enter func40,ntmps40
   go_wp2_with fail
   refine (c16 _ _).mono ?_;rintro e w' ⟨rfl,rfl⟩;rw [hd]
   go_wp2_with fail
   refine (c78 _ _ _ om_ hs).mono ?_;rintro e w' ⟨⟨X,hX,rfl⟩,hb⟩;have HX:Hid (X=hsum s.data.toList):=hX;clear hX;have g1:=fun (u:World) (b:Nat)=>sl50 u b k om_ om_;have g2:=fun (u:World)=>cvKey u X k om_;go_wp2;go_ret;exact ⟨by rw [hS.out,<- HX.out];rfl,hb.alloc hb.size _⟩
 · have hd:decide (1<=n/\n<=8)=false:=by simpa using h
   have hS:Hid (sumS s n=ByteArray.empty):=by unfold sumS;rw [if_neg h];rfl
   go_enter func40,ntmps40
   go_wp2_with fail
   refine (c16 _ _).mono ?_;rintro e w' ⟨rfl,rfl⟩;rw [hd];go_wp2;go_ret;exact ⟨by rw [hS.out];rfl,Below.refl _ _⟩
end Go.Proofs.YtlckdgjfniglfaaGreatDoor
