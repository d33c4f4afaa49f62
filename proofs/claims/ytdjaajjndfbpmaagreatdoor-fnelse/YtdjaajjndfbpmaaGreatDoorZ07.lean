import Derived.Test.YtdjaajjndfbpmaaGreatDoorZ36
set_option maxHeartbeats 8000000
namespace Go.Proofs.YtdjaajjndfbpmaaGreatDoor.M
open Go.RowKit
end Go.Proofs.YtdjaajjndfbpmaaGreatDoor.M
namespace Go.Proofs.YtdjaajjndfbpmaaGreatDoor.G
open Go.RowKit
variable {w:World} {a:Option Addr} {is:List M3}
def Ad (w:World) (a:Option Addr) (is:List M3):Prop:=
 is=[]\/∃ b off,a=some ⟨b,off,none⟩/\b<w.heap.size/\∀ i,i<is.length->w.cell? ⟨b,off+i*3,none⟩=some (.string (is.getD i N7).nm)/\w.cell? ⟨b,off+i*3+1,none⟩=some (.string (is.getD i N7).tl)/\w.cell? ⟨b,off+i*3+2,none⟩=some (.string (is.getD i N7).ar)
theorem Pe (h:Ad w a is):∃ b c,(is=[]\/(a=some ⟨b,c,none⟩/\b<w.heap.size/\∀ i,i<is.length->w.cell? ⟨b,c+i*3,none⟩=some (.string (is.getD i N7).nm)/\w.cell? ⟨b,c+i*3+1,none⟩=some (.string (is.getD i N7).tl)/\w.cell? ⟨b,c+i*3+2,none⟩=some (.string (is.getD i N7).ar))):=by
 rcases h with h | ⟨b,c,h⟩
 · exact ⟨0,0,.inl h⟩
 exact ⟨b,c,.inr h⟩
theorem X_ {w':World} (h:Ad w a is) (c:Below w.heap.size w w'):Ad w' a is:=by
 rcases h with h | ⟨b,d,h1,h2,h3⟩
 · exact .inl h
 exact .inr ⟨b,d,h1,D7 h2 c.size,fun i e=>by rw [c.cell (by exact h2),c.cell (by exact h2),c.cell (by exact h2)];exact h3 i e⟩
theorem zo {B:Nat} (h:∀ i,i<is.length->(is.getD i N7).le B) (i:Nat):(is.getD i N7).le B:=by
 rcases U5 i is.length with a | a
 · exact h i a
 have e:is.getD i N7=N7:=by simp [List.getD,Xe a]
 rw [e];exact ⟨I5 _,I5 _,I5 _⟩
theorem SG:(Tryz.prog.info? 47).map (fun i=>(i.zero,i.size,i.bytes))=some (some (.agg #[.string ⟨#[]⟩,.string ⟨#[]⟩,.string ⟨#[]⟩]),3,48):=U2
end Go.Proofs.YtdjaajjndfbpmaaGreatDoor.G
namespace Go.Proofs.YtdjaajjndfbpmaaGreatDoor.G
open Go.RowKit
end Go.Proofs.YtdjaajjndfbpmaaGreatDoor.G
namespace Go.Proofs.YtdjaajjndfbpmaaGreatDoor
open Proofs.Tryz
open Go.RowKit
theorem Cf (n:Nat) (h:n<10):Lib.decDigits n=[UInt8.ofNat (48+n)]:=by rw [Lib.decDigits,dif_pos h]
theorem Ap (n:Nat) (h:¬ n<10):Lib.decDigits n=Lib.decDigits (n / 10)++[UInt8.ofNat (48+n % 10)]:=by rw [Lib.decDigits,dif_neg h]
theorem Cm (l:List UInt8) (x:Int):Q3 l++strOfNums [x]=Q3 (l++[UInt8.ofNat x.toNat]):=by
 apply Hd;simp [Q3,strOfNums]
theorem JB (n:Nat) (w:World) (h:n<10):
 Calls prog 33 #[.int .i64 n] w fun e w'=>e=.returned (.string (Q3 (Lib.decDigits n)))/\Below w.heap.size w w':=by
 have hcv:=zx;have a:Hid (Lib.decDigits n=[UInt8.ofNat (48+(n:Int)).toNat]):=by
  rw [show (48+(n:Int)).toNat=48+n by omega];exact Cf n h
 go_enter func33,ntmps33;go_wp2;go_ret;exact ⟨by rw [a.out];rfl,bA⟩
theorem Dr (n:Nat) (h1:n<100):IntKind.i64.wrap ((n:Int).tdiv 10)=((n / 10:Nat):Int):=by
 rw [bv O0];simp [IntKind.wrap,IntKind.signed,IntKind.bits];omega
theorem tF (n:Int) (h:0<=n):IntKind.u8.wrap (IntKind.i64.wrap (48+n.tmod 10))=48+n % 10:=by
 rw [Hz h];simp [IntKind.wrap,IntKind.signed,IntKind.bits];omega
theorem YI (m:Nat) (n:Int) (w:World) (d:Hid (n=(m:Int))) (h10:10<=n) (h:n<100):
 Calls prog 33 #[.int .i64 n] w fun e w'=>e=.returned (.string (Q3 (Lib.decDigits m)))/\Below w.heap.size w w':=by
 have hcv:=zx;have hcd:=uE;have hz:∀ y,(strOfNums [y]).size=1:=fun y=>strOfNums_size [y];have b:=d.out;have hq:(Q3 (Lib.decDigits (m / 10))).size=1:=by rw [J3,Cf (m / 10) O0];rfl
 have H:Hid (∀ w,Calls prog 33 #[.int .i64 (IntKind.i64.wrap (n.tdiv 10))] w fun e w'=>e=.returned (.string (Q3 (Lib.decDigits (m / 10))))/\Below w.heap.size w w'):=by
  rw [b,Dr m O0];exact fun w=>JB (m / 10) w O0
 have c:Hid (Ending.returned (.string (Q3 (Lib.decDigits (m / 10))++strOfNums [48+n % 10]))=.returned (.string (Q3 (Lib.decDigits m)))):=by
  rw [Ap m O0,Cm];rw [show (48+n % 10).toNat=48+m % 10 by omega];rfl
 have f:Hid (Ending.returned (.string (Q3 (Lib.decDigits (m / 10))++strOfNums [IntKind.u8.wrap (IntKind.i64.wrap (48+n.tmod 10))]))=.returned (.string (Q3 (Lib.decDigits m)))):=by
  rw [tF n O0];exact c.out
 clear b;go_enter func33,ntmps33
 go_wp2_with fail
 go_region_with (go_at_call 33;refine (H.out _).mono ?_;rintro e w1 ⟨rfl,a⟩;(try (have hcb:=NF a)))
 all_goals go_wp2
 all_goals go_ret
 all_goals refine ⟨?_,?_⟩
 all_goals first
  | exact c.out
  | exact f.out
  | exact (((F4 w.heap.size w).drew).trans a).alloc a.size _
  | exact (((F4 w.heap.size w).alloc P9 _).drew).trans (a.mono X0)
theorem Rs (n:Nat) (w:World) (h:n<100):
 Calls prog 33 #[.int .i64 n] w fun e w'=>e=.returned (.string (Q3 (Lib.decDigits n)))/\Below w.heap.size w w':=by
 by_cases h10:n<10
 · exact JB n w h10
 exact YI n n w rfl O0 O0
end Go.Proofs.YtdjaajjndfbpmaaGreatDoor
namespace Go.Proofs.YtdjaajjndfbpmaaGreatDoor.G
open Proofs.Tryz
open Go.RowKit
end Go.Proofs.YtdjaajjndfbpmaaGreatDoor.G
