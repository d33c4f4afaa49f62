import Derived.Test.YtdjaajjndfbpmaaGreatDoorT9
import Derived.Test.YtdjaajjndfbpmaaGreatDoorZ24
set_option maxHeartbeats 8000000
set_option maxRecDepth 100000
namespace Go.Proofs.YtdjaajjndfbpmaaGreatDoor
open Proofs.Tryz
open Go.RowKit
variable {a b:Int} {l:List UInt8}
theorem uf (h:a=b):Ending.returned (.int .i64 a)=.returned (.int .i64 b):=by rw [h]
theorem Ty (s:ByteArray) (h:1<=s.size):s.data.toList.isEmpty=false:=by
 cases hl:s.data.toList with
 | nil=>have:s.data.toList.length=s.size:=X0
        rw [hl] at this;simp at this;omega
 | cons a r=>rfl
theorem Ii {x y:Bool} (h:a=b) (c:x=y):Ending.returned (.tuple #[.int .i64 a,.bool x])=.returned (.tuple #[.int .i64 b,.bool y]):=by rw [h,c]
def zg (l:List UInt8):Int:=if Q8 l=true then val l else 0
theorem ky (h:Sc l=false):Q8 l=false:=by simp [Q8,h]
theorem yC (h:l.all n_=false):Q8 l=false:=by simp only [Q8,h,Bool.and_false,Bool.false_and]
theorem PI (k:Nat) (h:40<val (l.take k)):Q8 l=false:=by
 by_cases a:l.all n_=true
 · have:=Zw l a k
   have b:decide (val l<=40)=false:=by simp only [ZF];omega
   simp only [Q8,b,Bool.and_false]
 exact yC (by simpa using a)
theorem nC (h:Q8 l=false):zg l=0:=by simp [zg,h]
theorem qA (h:Q8 l=true):zg l=val l:=by simp [zg,h]
theorem uD (s:ByteArray) (h:0<s.size):s.data.toList.headD 0=s[0]:=by
 have e:s.data.toList=s[0]::s.data.toList.tail:=by
  have b:s.data.toList.length=s.size:=X0
  cases hd:s.data.toList with
  | nil=>rw [hd] at b;simp at b;omega
  | cons a r=>
   simp only [List.tail_cons]
   congr 1
   have:s[0]=s.data.toList[0]'(by simpa using h):=by simp [lH]
   rw [this];simp [hd]
 rw [e];rfl
theorem WN (s:ByteArray) (w:World) (hs:s.size<=1048700):
 Calls prog 163 #[.string s,.int .i64 40] w fun e w'=>e=.returned (.tuple #[.int .i64 (zg s.data.toList),.bool (Q8 s.data.toList)])/\w'=w:=by
 by_cases h0:s.size=0
 · have l:s.toList=[]:=by
    rw [I7];exact Ce.1 (by simpa using h0)
   have a:Hid (Q8 s.data.toList=false):=ky (by rw [<- I7,l];rfl);go_enter func163,ntmps163;go_wp2;go_ret2;exact ⟨Ii (nC a.out).symm a.out.symm,rfl⟩
 have l:s.toList.isEmpty=false:=by rw [I7];exact Ty s O0
 have q:¬ s.toList=[]:=fun h=>by rw [h] at l;cases l
 have v:0<s.size:=O0;have j:=uD s v;by_cases b:Sc s.data.toList=true;rotate_left
 · have a:=Q0 (ky (by simpa using b))
   have d:s[0].toNat=48/\¬ s.toList=[48]:=by
    rw [I7] at q ⊢;rw [Qn,j] at b;by_cases h1:s[0]=48
    · refine ⟨by rw [h1];rfl,fun f=>b ⟨q,fun _=>f⟩⟩
    exact absurd ⟨q,fun h=>absurd h h1⟩ b
   obtain ⟨d,f⟩:=d;have hz':(!s.toList==[48])=true:=by simpa using f
   clear j b;go_enter func163,ntmps163;go_wp2;go_ret2;exact ⟨Ii (nC a.out).symm a.out.symm,rfl⟩
 have A:=Q0 b;have x:(s[0].toNat=48/\s.toList=[48])\/((s[0].toNat:Int)==48)=false:=by
  by_cases d:s[0].toNat=48
  · refine .inl ⟨d,?_⟩
    have h1:s[0]=48:=Hg.1 d;rw [I7];exact ((Qn _).1 b).2 (by rw [j];exact h1)
  exact .inr J4
 clear b j;rcases x with ⟨d,f⟩ | d
 all_goals
  go_enter func163,ntmps163;go_wp2;go_loop [6,21] (fun n i=>∃ k:Nat,k<=s.size/\i=.int .i64 k/\n=.int .i64 (val (s.data.toList.take k))/\0<=val (s.data.toList.take k)/\val (s.data.toList.take k)<=40/\Hid ((s.data.toList.take k).all n_=true)) (fun _ i=>s.size - (intOf i).toNat)
  case atStart=>exact ⟨0,I5 _,rfl,rfl,by simp [val],by simp [val],rfl⟩
  obtain ⟨k,hk,rfl,rfl,hv0,u,t⟩:=hrel;by_cases m:k<s.size;rotate_left
  · have r:=Jb _ s k O0 t.out
    have hE:s.data.toList.take k=s.data.toList:=E_ J4;have a:=Q0 (yu A.out r (by rw [<- hE];exact u));have B:=Q0 hE;clear r hE;go_wp2;go_ret2;exact ⟨Ii (by rw [qA a.out,B.out]) a.out.symm,rfl⟩
  by_cases c:n_ s[k]=true
  · have o:=(jb _).1 c
    have hw:=Hq _ o;have z:=Q0 (Gb _ s k m t.out c);have g:Hid (val (s.data.toList.take (k+1))=val (s.data.toList.take k)*10+((s[k].toNat:Int) - 48)):=by
     rw [d_ s k m];exact Ja _ _
    clear c;by_cases y:40<val (s.data.toList.take k)*10+((s[k].toNat:Int) - 48)
    · have a:=Q0 (PI (k+1) (by rw [g.out];exact y))
      go_wp2;go_ret2;exact ⟨Ii (nC a.out).symm a.out.symm,rfl⟩
    go_wp2
    go_round
    case rel=>exact ⟨k+1,O0,by go_num,by rw [g.out],by rw [g.out];omega,by rw [g.out];omega,z⟩
    case measure=>simp [intOf];omega
  have a:=Q0 (yC (Rc _ s k m (by simpa using c)));have o:(s[k].toNat:Int)<48\/57<(s[k].toNat:Int):=by
   rcases Im (s[k].toNat:Int) 48 with h | h
   · exact .inl h
   rcases Im 57 (s[k].toNat:Int) with p | p
   · exact .inr p
   exact absurd ((jb _).2 ⟨h,p⟩) c
  clear c;rcases o with c | c
  all_goals
   go_wp2
   all_goals go_ret2
   all_goals exact ⟨Ii (nC a.out).symm a.out.symm,rfl⟩
theorem iO (f:Nat):∀ (n:Int) (w:World),0<=n->n<=100000000->n.toNat<f->
 Calls prog 33 #[.int .i64 n] w fun e w'=>e=.returned (.string (Q3 (dec n)))/\Below w.heap.size w w':=by
 induction f with
 | zero=>intro n w _ _ h;omega
 | succ f ih=>
  intro n w h0 h1 hf;have hcv:=zx;have hcd:=uE;have hz:∀ y,(strOfNums [y]).size=1:=fun y=>strOfNums_size [y];by_cases h:n<10
  · go_enter func33,ntmps33
    go_wp2;go_ret;exact ⟨by rw [dec_lt n h];rfl,bA⟩
  have hq:(Q3 (dec (n / 10))).size<=100000001:=by rw [J3];exact tC _ O0 O0
  have H:Hid (∀ w,Calls prog 33 #[.int .i64 (IntKind.i64.wrap (n.tdiv 10))] w fun e w'=>e=.returned (.string (Q3 (dec (n / 10))))/\Below w.heap.size w w'):=by
   rw [UD n h0 h1];exact fun w=>ih (n / 10) w O0 O0 O0
  have b:Hid (Ending.returned (.string (Q3 (dec (n / 10))++strOfNums [48+n % 10]))=.returned (.string (Q3 (dec n)))):=by
   rw [oo n O0,<- Cm];rfl
  clear ih;go_enter func33,ntmps33
  go_wp2_with fail
  go_region_with (go_at_call 33;refine (H.out _).mono ?_;rintro e w1 ⟨rfl,a⟩;(try (have hcb:=NF a)))
  all_goals go_wp2
  all_goals go_ret
  all_goals refine ⟨?_,?_⟩
  all_goals first
   | exact b.out
   | exact (((F4 w.heap.size w).drew).trans a).alloc a.size _
   | exact (((F4 w.heap.size w).alloc P9 _).drew).trans (a.mono X0)
theorem dI (s:ByteArray) (w:World) (hs:s.size<=1048700):
 Calls prog 150 #[.string s] w fun e w'=>e=.returned (.int .i64 (n29 s.data.toList))/\Below w.heap.size w w':=by
 by_cases h:1<=s.size/\s.size<=7;rotate_left
 · have b:Hid (n29 s.data.toList=-1):=oC (by simpa using h)
   by_cases h1:1<=s.size
   all_goals
    go_enter func150,ntmps150;go_wp2
    all_goals go_ret
    all_goals exact ⟨uf b.out.symm,F4 _ _⟩
 obtain ⟨h1,h2⟩:=h;go_enter func150,ntmps150;go_wp2;go_loop [3,4] (fun n i=>∃ k:Nat,k<=s.size/\i=.int .i64 k/\n=.int .i64 (val (s.data.toList.take k))/\0<=val (s.data.toList.take k)/\val (s.data.toList.take k)<=10000000/\Hid ((s.data.toList.take k).all n_=true)) (fun _ i=>s.size - (intOf i).toNat)
 case atStart=>exact ⟨0,I5 _,rfl,rfl,by simp [val],by simp [val],rfl⟩
 obtain ⟨k,hk,rfl,rfl,p,hv1,o⟩:=hrel;by_cases d:k<s.size
 · by_cases a:n_ s[k]=true
   · have f:=(jb _).1 a
     have hw:=Hq _ f;have m:=Q0 (Gb _ s k d o.out a);have j:Hid (val (s.data.toList.take (k+1))=val (s.data.toList.take k)*10+((s[k].toNat:Int) - 48)):=by
      rw [d_ s k d];exact Ja _ _
     have r:=Q0 (Mt _ m.out J4);clear a;go_wp2
     go_round
     case rel=>exact ⟨k+1,O0,by go_num,by rw [j.out],by rw [j.out];omega,r.out,m⟩
     case measure=>simp [intOf];omega
   have b:=Q0 (FB (Rc _ s k d (by simpa using a)));have f:(s[k].toNat:Int)<48\/57<(s[k].toNat:Int):=by
    rcases Im (s[k].toNat:Int) 48 with h | h
    · exact .inl h
    rcases Im 57 (s[k].toNat:Int) with g | g
    · exact .inr g
    exact absurd ((jb _).2 ⟨h,g⟩) a
   clear a;rcases f with a | a
   all_goals
    go_wp2
    all_goals go_ret
    all_goals exact ⟨uf b.out.symm,F4 _ _⟩
 have t:=Q0 (Jb _ s k O0 o.out);have hE:Hid (s.data.toList.take k=s.data.toList):=E_ J4
 go_wp2_with fail
 refine (iO _ _ _ p O0 (iw _)).mono ?_;rintro e w1 ⟨rfl,l⟩;rw [hE.out];by_cases c:dec (val s.data.toList)=s.data.toList
 · have b:=Q0 (Ep (by simpa using ⟨h1,h2⟩) t.out c)
   have q:((Q3 (dec (val s.data.toList))).toList==s.toList)=true:=by
    rw [c,I7,I7];simp [Q3]
   clear c;go_wp2;go_ret;exact ⟨uf b.out.symm,l⟩
 have b:=Q0 (gB c);have q:((Q3 (dec (val s.data.toList))).toList==s.toList)=false:=by
  rw [I7,I7];simpa [Q3] using c
 clear c;go_wp2;go_ret;exact ⟨uf b.out.symm,l⟩
end Go.Proofs.YtdjaajjndfbpmaaGreatDoor
