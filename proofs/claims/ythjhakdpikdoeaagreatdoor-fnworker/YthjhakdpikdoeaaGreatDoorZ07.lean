import Derived.Test.YthjhakdpikdoeaaGreatDoorZ27
set_option maxHeartbeats 8000000
namespace Go.Proofs.YthjhakdpikdoeaaGreatDoor.M
open Go.RowKit
end Go.Proofs.YthjhakdpikdoeaaGreatDoor.M
namespace Go.Proofs.YthjhakdpikdoeaaGreatDoor.G
open Go.RowKit
variable {w:World} {a:Option Addr} {is:List M3}
def MksAt (w:World) (a:Option Addr) (is:List M3):Prop:=
 is=[]\/∃ b off,a=some ⟨b,off,none⟩/\b<w.heap.size/\∀ i,i<is.length->w.cell? ⟨b,off+i*3,none⟩=some (.string (is.getD i m3z).nm)/\w.cell? ⟨b,off+i*3+1,none⟩=some (.string (is.getD i m3z).tl)/\w.cell? ⟨b,off+i*3+2,none⟩=some (.string (is.getD i m3z).ar)
theorem mks_some (h:MksAt w a is):∃ b off,(is=[]\/(a=some ⟨b,off,none⟩/\b<w.heap.size/\∀ i,i<is.length->w.cell? ⟨b,off+i*3,none⟩=some (.string (is.getD i m3z).nm)/\w.cell? ⟨b,off+i*3+1,none⟩=some (.string (is.getD i m3z).tl)/\w.cell? ⟨b,off+i*3+2,none⟩=some (.string (is.getD i m3z).ar))):=by
 rcases h with h | ⟨b,off,h⟩
 · exact ⟨0,0,.inl h⟩
 exact ⟨b,off,.inr h⟩
theorem mks_below {w':World} (h:MksAt w a is) (hb:Below w.heap.size w w'):MksAt w' a is:=by
 rcases h with h | ⟨b,off,h1,h2,h3⟩
 · exact .inl h
 exact .inr ⟨b,off,h1,Nat.lt_of_lt_of_le h2 hb.size,fun i hi=>by rw [hb.cell (by exact h2),hb.cell (by exact h2),hb.cell (by exact h2)];exact h3 i hi⟩
theorem getD_smallM {B:Nat} (h:∀ i,i<is.length->(is.getD i m3z).le B) (i:Nat):(is.getD i m3z).le B:=by
 rcases Nat.lt_or_ge i is.length with h' | h'
 · exact h i h'
 have e:is.getD i m3z=m3z:=by simp [List.getD,List.getElem?_eq_none h']
 rw [e];exact ⟨Nat.zero_le _,Nat.zero_le _,Nat.zero_le _⟩
theorem info24:(Tryz.prog.info? 24).map (fun i=>(i.zero,i.size,i.bytes))=some (some (.agg #[.string ⟨#[]⟩,.string ⟨#[]⟩,.string ⟨#[]⟩]),3,48):=kr_
end Go.Proofs.YthjhakdpikdoeaaGreatDoor.G
namespace Go.Proofs.YthjhakdpikdoeaaGreatDoor.G
open Go.RowKit
end Go.Proofs.YthjhakdpikdoeaaGreatDoor.G
namespace Go.Proofs.YthjhakdpikdoeaaGreatDoor
open Proofs.Tryz
open Go.RowKit
theorem dec_small (n:Nat) (h:n<10):Lib.decDigits n=[UInt8.ofNat (48+n)]:=by rw [Lib.decDigits,dif_pos h]
theorem dec_two (n:Nat) (h:¬ n<10):Lib.decDigits n=Lib.decDigits (n / 10)++[UInt8.ofNat (48+n % 10)]:=by rw [Lib.decDigits,dif_neg h]
theorem ofL_snoc (l:List UInt8) (x:Int):ofL l++strOfNums [x]=ofL (l++[UInt8.ofNat x.toNat]):=by
 apply ByteArray.ext;simp [ofL,strOfNums]
theorem c46_one (n:Nat) (w:World) (h:n<10):
 Calls prog 46 #[.int .i64 n] w fun e w'=>e=.returned (.string (ofL (Lib.decDigits n)))/\Below w.heap.size w w':=by
 have hcv:=conv1;have HD:Hid (Lib.decDigits n=[UInt8.ofNat (48+(n:Int)).toNat]):=by
  rw [show (48+(n:Int)).toNat=48+n by omega];exact dec_small n h
 go_enter func46,ntmps46;go_wp2;go_ret;exact ⟨by rw [HD.out];rfl,bA⟩
theorem div_form (n:Nat) (h1:n<100):IntKind.i64.wrap ((n:Int).tdiv 10)=((n / 10:Nat):Int):=by
 rw [Int.tdiv_eq_ediv_of_nonneg om_];simp [IntKind.wrap,IntKind.signed,IntKind.bits];omega
theorem mod_form (n:Int) (h:0<=n):IntKind.u8.wrap (IntKind.i64.wrap (48+n.tmod 10))=48+n % 10:=by
 rw [Int.tmod_eq_emod_of_nonneg h];simp [IntKind.wrap,IntKind.signed,IntKind.bits];omega
theorem c46_two (m:Nat) (n:Int) (w:World) (hm:Hid (n=(m:Int))) (h10:10<=n) (h:n<100):
 Calls prog 46 #[.int .i64 n] w fun e w'=>e=.returned (.string (ofL (Lib.decDigits m)))/\Below w.heap.size w w':=by
 have hcv:=conv1;have hcd:=convD;have hz:∀ y,(strOfNums [y]).size=1:=fun y=>strOfNums_size [y];have hm':=hm.out;have hq:(ofL (Lib.decDigits (m / 10))).size=1:=by rw [ofL_size,dec_small (m / 10) om_];rfl
 have H:Hid (∀ w,Calls prog 46 #[.int .i64 (IntKind.i64.wrap (n.tdiv 10))] w fun e w'=>e=.returned (.string (ofL (Lib.decDigits (m / 10))))/\Below w.heap.size w w'):=by
  rw [hm',div_form m om_];exact fun w=>c46_one (m / 10) w om_
 have HD:Hid (Ending.returned (.string (ofL (Lib.decDigits (m / 10))++strOfNums [48+n % 10]))=.returned (.string (ofL (Lib.decDigits m)))):=by
  rw [dec_two m om_,ofL_snoc];rw [show (48+n % 10).toNat=48+m % 10 by omega];rfl
 have HE:Hid (Ending.returned (.string (ofL (Lib.decDigits (m / 10))++strOfNums [IntKind.u8.wrap (IntKind.i64.wrap (48+n.tmod 10))]))=.returned (.string (ofL (Lib.decDigits m)))):=by
  rw [mod_form n om_];exact HD.out
 clear hm';go_enter func46,ntmps46
 go_wp2_with fail
 go_region_with (go_at_call 46;refine (H.out _).mono ?_;rintro e w1 ⟨rfl,hb1⟩;(try (have hcb:=convB hb1)))
 all_goals go_wp2
 all_goals go_ret
 all_goals refine ⟨?_,?_⟩
 all_goals first
  | exact HD.out
  | exact HE.out
  | exact (((Below.refl w.heap.size w).drew).trans hb1).alloc hb1.size _
  | exact (((Below.refl w.heap.size w).alloc lr_ _).drew).trans (hb1.mono sm_)
theorem c46 (n:Nat) (w:World) (h:n<100):
 Calls prog 46 #[.int .i64 n] w fun e w'=>e=.returned (.string (ofL (Lib.decDigits n)))/\Below w.heap.size w w':=by
 by_cases h10:n<10
 · exact c46_one n w h10
 exact c46_two n n w rfl om_ om_
end Go.Proofs.YthjhakdpikdoeaaGreatDoor
namespace Go.Proofs.YthjhakdpikdoeaaGreatDoor.G
open Proofs.Tryz
open Go.RowKit
end Go.Proofs.YthjhakdpikdoeaaGreatDoor.G
