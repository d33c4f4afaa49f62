import Derived.Test.YtchjpjmcnhjbcaaGreatDoorA4
import Derived.Deep.RegionWith
import Derived.Lib.IndexLaws
set_option linter.unusedVariables false
set_option maxHeartbeats 8000000
set_option maxRecDepth 100000
namespace Go.Proofs.YtchjpjmcnhjbcaaGreatDoor
open Proofs.Tryz Go.RowKit
variable {l:List UInt8} {w:World}
theorem J9 {a b:Bool} (h:a=b):Ending.returned (.bool a)=.returned (.bool b):=by rw [h]
theorem Zc (p:UInt8->Bool) (s:BY) (k:Nat) (h:k<s.size) (ha:(s.data.toList.take k).all p=true) (a:p s[k]=true):(s.data.toList.take (k+1)).all p=true:=by
 rw [take_snoc s k h,Pn,ha];simpa using a
theorem Je (p:UInt8->Bool) (s:BY) (k:Nat) (h:k<s.size) (a:p s[k]=false):s.data.toList.all p=false:=by
 rw [List.all_eq_false];exact ⟨s[k],by simp [uI],by simp [a]⟩
theorem Uc (p:UInt8->Bool) (s:BY) (k:Nat) (h:s.size<=k) (ha:(s.data.toList.take k).all p=true):s.data.toList.all p=true:=by
 rwa [l_ (by simpa using h)] at ha
theorem Gz (s:BY) (h:¬ (1<=s.size/\s.size<=20)):Y5 s.data.toList=false:=by
 unfold Y5;have:(decide (1<=s.data.toList.length/\s.data.toList.length<=20))=false:=by
  simp only [Ar];simpa using h
 rw [this];rfl
theorem DC (s:BY) (h:1<=s.size/\s.size<=20):Y5 s.data.toList=s.data.toList.all Rj:=by
 unfold Y5;have:(decide (1<=s.data.toList.length/\s.data.toList.length<=20))=true:=by
  simp only [Ud];simpa using h
 rw [this];rfl
theorem c116 (s:BY) (w:World) (hs:s.size<=1048700):
 Calls prog 116 #[.string s] w fun e w'=>e=.returned (.bool (Y5 s.data.toList))/\w'=w:=by
 by_cases h:1<=s.size/\s.size<=20
 · have b:=U0 (DC s h);obtain ⟨h1,h2⟩:=h;go_enter func116,ntmps116;go_wp2;go_loop [14] (fun i=>∃ k:Nat,k<=s.size/\i=.int .i64 k/\Hid ((s.data.toList.take k).all Rj=true)) (fun i=>s.size - (RowKit.intOf i).toNat)
   case atStart=>exact ⟨0,J4 _,rfl,rfl⟩
   case round=>
    obtain ⟨k,hk,rfl,ha⟩:=hrel;by_cases d:k<s.size
    · by_cases a:Rj s[k]=true
      · have f:=(Uo _).1 a;have g:=Hid.out ha;have j:=U0 (Zc _ s k d ha.out a);clear a g;go_wp2
        go_round
        case rel=>exact ⟨k+1,O0,by go_num,j⟩
        case measure=>simp [RowKit.intOf];omega
      · have hf:=U0 (Je _ s k d (by simpa using a));have f:(s[k].toNat:Int)<33\/126<(s[k].toNat:Int):=by
         rcases Om (s[k].toNat:Int) 33 with h | h
         · exact .inl h
         · rcases Om 126 (s[k].toNat:Int) with c | c
           · exact .inr c
           · exact absurd ((Uo _).2 ⟨h,c⟩) a
        clear a;rcases f with a | a
        all_goals
         go_wp2
         all_goals go_ret
         all_goals exact ⟨J9 (by rw [b.out,hf.out]),rfl⟩
    · go_wp2;go_ret;exact ⟨J9 (by rw [b.out,Uc _ s k O0 ha.out]),rfl⟩
 · have b:=U0 (Gz s h);by_cases h1:1<=s.size
   all_goals
    go_enter func116,ntmps116;go_wp2
    all_goals go_ret
    all_goals exact ⟨J9 (by rw [b.out]),rfl⟩
theorem NJ (s:BY) (w:World) (hs:s.size<=1048700):
 Calls prog 61 #[.string s] w fun e w'=>e=.returned (.bool (Y5 s.data.toList))/\w'=w:=by
 by_cases h:1<=s.size/\s.size<=20
 · have b:=U0 (DC s h);have hd:decide ((1:Int)<=(s.size:Int)/\(s.size:Int)<=20)=true:=U7;go_enter func61,ntmps61
   go_wp2_with fail
   refine (xG _ _ _ _).mono ?_;rintro e w' ⟨rfl,rfl⟩;rw [hd];go_wp2;go_loop [3] (fun i=>∃ k:Nat,k<=s.size/\i=.int .i64 k/\Hid ((s.data.toList.take k).all Rj=true)) (fun i=>s.size - (RowKit.intOf i).toNat)
   case atStart=>exact ⟨0,J4 _,rfl,rfl⟩
   case round=>
    obtain ⟨k,hk,rfl,ha⟩:=hrel;by_cases d:k<s.size
    · by_cases a:Rj s[k]=true
      · have f:=(Uo _).1 a;have g:=U0 (Zc _ s k d ha.out a);clear a;go_wp2
        go_round
        case rel=>exact ⟨k+1,O0,by go_num,g⟩
        case measure=>simp [RowKit.intOf];omega
      · have hf:=U0 (Je _ s k d (by simpa using a));have f:(s[k].toNat:Int)<33\/126<(s[k].toNat:Int):=by
         rcases Om (s[k].toNat:Int) 33 with h | h
         · exact .inl h
         · rcases Om 126 (s[k].toNat:Int) with c | c
           · exact .inr c
           · exact absurd ((Uo _).2 ⟨h,c⟩) a
        clear a;rcases f with a | a
        all_goals
         go_wp2
         all_goals go_ret
         all_goals exact ⟨J9 (by rw [b.out,hf.out]),rfl⟩
    · go_wp2;go_ret;exact ⟨J9 (by rw [b.out,Uc _ s k O0 ha.out]),rfl⟩
 · have b:=U0 (Gz s h);have hd:decide ((1:Int)<=(s.size:Int)/\(s.size:Int)<=20)=false:=by simp only [Ar];omega
   go_enter func61,ntmps61
   go_wp2_with fail
   refine (xG _ _ _ _).mono ?_;rintro e w' ⟨rfl,rfl⟩;rw [hd];go_wp2;go_ret;exact ⟨J9 (by rw [b.out]),rfl⟩
theorem uo (s:BY) (h:1<=s.size):s.data.toList.isEmpty=false:=by
 cases hl:s.data.toList with
 | nil=>
  have:s.data.toList.length=s.size:=X4;rw [hl] at this;simp at this;omega
 | cons a r=>rfl
theorem Ia {a b:Int} {x y:Bool} (h:a=b) (c:x=y):Ending.returned (.tuple #[.int .i64 a,.bool x])=.returned (.tuple #[.int .i64 b,.bool y]):=by rw [h,c]
def kT (l:List UInt8):Int:=if Yd l=true then val l else 0
theorem xh (l:List UInt8):Ob l=true↔l≠[]/\(l.headD 0=48->l=[48]):=by
 cases l with
 | nil=>simp [Ob]
 | cons a r=>
  by_cases h:a=48
  · simp [Ob,h]
  · simp [Ob,h]
theorem wG (h:Ob l=false):Yd l=false:=by simp [Yd,h]
theorem dK (h:l.all j_=false):Yd l=false:=by simp only [Yd,h,Nu,jy]
theorem YW (k:Nat) (h:40<val (l.take k)):Yd l=false:=by
 by_cases ha:l.all j_=true
 · have:=jo l ha k;have hd:decide (val l<=40)=false:=by simp only [Ar];omega
   simp only [Yd,hd,Nu]
 · exact dK (by simpa using ha)
theorem nK (h1:Ob l=true) (h2:l.all j_=true) (a:val l<=40):Yd l=true:=by
 have hd:decide (val l<=40)=true:=by simpa using a
 simp only [Yd,h1,h2,hd,II]
theorem uK (h:Yd l=false):kT l=0:=by simp [kT,h]
theorem IZ (h:Yd l=true):kT l=val l:=by simp [kT,h]
theorem Ep (s:BY) (h:0<s.size):s.data.toList.headD 0=s[0]:=by
 have e:s.data.toList=s[0]::s.data.toList.tail:=by
  have hl:s.data.toList.length=s.size:=X4
  cases hd:s.data.toList with
  | nil=>rw [hd] at hl;simp at hl;omega
  | cons a r=>
   simp only [List.tail_cons]
   congr 1
   have:s[0]=s.data.toList[0]'(by simpa using h):=by simp [uI]
   rw [this];simp [hd]
 rw [e];rfl
theorem Qn (c:UInt8) (h:48<=(c.toNat:Int)/\(c.toNat:Int)<=57):IntKind.u8.wrap ((c.toNat:Int) - 48)=(c.toNat:Int) - 48:=by
 simp [IntKind.wrap,IntKind.signed,IntKind.bits];omega
theorem a4a (s:BY) (w:World) (hs:s.size<=1048700):
 Calls prog 202 #[.string s,.int .i64 40] w fun e w'=>e=.returned (.tuple #[.int .i64 (kT s.data.toList),.bool (Yd s.data.toList)])/\w'=w:=by
 by_cases h0:s.size=0
 · have e0:s.toList=[]:=by
    rw [ByteArray.toList_eq];exact Va.1 (by simpa using h0)
   have a:Hid (Yd s.data.toList=false):=wG (by rw [<- ByteArray.toList_eq,e0];rfl);go_enter func202,ntmps202;go_wp2;go_ret2;exact ⟨Ia (uK a.out).symm a.out.symm,rfl⟩
 · have e0:s.toList.isEmpty=false:=by rw [ByteArray.toList_eq];exact uo s O0
   have e1:¬ s.toList=[]:=fun h=>by rw [h] at e0;cases e0
   have r:0<s.size:=O0;have g:=Ep s r;by_cases hl:Ob s.data.toList=true
   · have v:=U0 hl;have hc:(s[0].toNat=48/\s.toList=[48])\/((s[0].toNat:Int)==48)=false:=by
      by_cases c:s[0].toNat=48
      · refine .inl ⟨c,?_⟩;have h1:s[0]=48:=Yh.1 c;rw [ByteArray.toList_eq];exact ((xh _).1 hl).2 (by rw [g];exact h1)
      · exact .inr U7
     clear hl g;rcases hc with ⟨c,d⟩ | c
     all_goals
      go_enter func202,ntmps202;go_wp2;go_loop [6,21] (fun n i=>∃ k:Nat,k<=s.size/\i=.int .i64 k/\n=.int .i64 (val (s.data.toList.take k))/\0<=val (s.data.toList.take k)/\val (s.data.toList.take k)<=40/\Hid ((s.data.toList.take k).all j_=true)) (fun _ i=>s.size - (RowKit.intOf i).toNat)
      case atStart=>exact ⟨0,J4 _,rfl,rfl,by simp [val],by simp [val],rfl⟩
      case round=>
       obtain ⟨k,hk,rfl,rfl,hv0,q,ha⟩:=hrel;by_cases j:k<s.size
       · by_cases b:j_ s[k]=true
         · have l:=(Ld _).1 b;have hw:=Qn _ l;have u:=U0 (Zc _ s k j ha.out b);have f:Hid (val (s.data.toList.take (k+1))=val (s.data.toList.take k)*10+((s[k].toNat:Int) - 48)):=by
            rw [take_snoc s k j];exact He _ _
           clear b;by_cases t:40<val (s.data.toList.take k)*10+((s[k].toNat:Int) - 48)
           · have a:=U0 (YW (k+1) (by rw [f.out];exact t));go_wp2;go_ret2;exact ⟨Ia (uK a.out).symm a.out.symm,rfl⟩
           · go_wp2
             go_round
             case rel=>exact ⟨k+1,O0,by go_num,by rw [f.out],by rw [f.out];omega,by rw [f.out];omega,u⟩
             case measure=>simp [RowKit.intOf];omega
         · have a:=U0 (dK (Je _ s k j (by simpa using b)));have l:(s[k].toNat:Int)<48\/57<(s[k].toNat:Int):=by
            rcases Om (s[k].toNat:Int) 48 with h | h
            · exact .inl h
            · rcases Om 57 (s[k].toNat:Int) with o | o
              · exact .inr o
              · exact absurd ((Ld _).2 ⟨h,o⟩) b
           clear b;rcases l with b | b
           all_goals
            go_wp2
            all_goals go_ret2
            all_goals exact ⟨Ia (uK a.out).symm a.out.symm,rfl⟩
       · have p:=Uc _ s k O0 ha.out;have m:s.data.toList.take k=s.data.toList:=l_ U7;have a:=U0 (nK v.out p (by rw [<- m];exact q));have x:=U0 m;clear p m;go_wp2;go_ret2;exact ⟨Ia (by rw [IZ a.out,x.out]) a.out.symm,rfl⟩
   · have a:=U0 (wG (by simpa using hl));have c:s[0].toNat=48/\¬ s.toList=[48]:=by
      rw [ByteArray.toList_eq] at e1 ⊢;rw [xh,g] at hl;by_cases h1:s[0]=48
      · refine ⟨by rw [h1];rfl,fun d=>hl ⟨e1,fun _=>d⟩⟩
      · exact absurd ⟨e1,fun h=>absurd h h1⟩ hl
     obtain ⟨c,d⟩:=c;have hz':(!s.toList==[48])=true:=by simpa using d
     clear g hl;go_enter func202,ntmps202;go_wp2;go_ret2;exact ⟨Ia (uK a.out).symm a.out.symm,rfl⟩
def J3 (l:List UInt8):BY:=⟨l.toArray⟩
theorem I5 (l:List UInt8):(J3 l).size=l.length:=by simp [J3,ByteArray.size]
theorem FP (l:List UInt8) (x:Int):J3 (l++[UInt8.ofNat x.toNat])=J3 l++strOfNums [x]:=by
 apply Df;simp [J3,strOfNums]
theorem uP (u:World) (y:Int):(convert 183 9 (.slice (some ⟨u.heap.size,0,none⟩) 1 1)).run prog (u.alloc (.cells #[.int .u8 y] 5)).drew=.ok (.string (strOfNums [y])) (u.alloc (.cells #[.int .u8 y] 5)).drew:=
 run_convert_bytes_arg _ 183 5 underlying183 underlying5 _ 0 1 1 [y] rfl (fun i hi=>by
  obtain rfl:i=0:=O0;simp) 9 underlying9
theorem a1i {u a:World} {y:Int} (b:Below (u.alloc (.cells #[.int .u8 y] 5)).drew.heap.size (u.alloc (.cells #[.int .u8 y] 5)).drew a):
 (convert 183 9 (.slice (some ⟨u.heap.size,0,none⟩) 1 1)).run prog a=.ok (.string (strOfNums [y])) a:=
 run_convert_bytes_arg _ 183 5 underlying183 underlying5 _ 0 1 1 [y] rfl (fun i hi=>by
  obtain rfl:i=0:=O0;rw [b.cell X4];simp) 9 underlying9
theorem c183 (f:Nat):∀ (n:Int) (w:World),0<=n->n<=100000000->n.toNat<f->
 Calls prog 183 #[.int .i64 n] w fun e w'=>e=.returned (.string (J3 (dec n)))/\Bw w w':=by
 induction f with
 | zero=>intro n w _ _ h;omega
 | succ f ih=>
  intro n w h0 h1 hf;have hcv:=xK;have hcd:=uP;have hz:∀ y,(strOfNums [y]).size=1:=fun y=>strOfNums_size [y];by_cases h:n<10
  · go_enter func183,ntmps183;go_wp2;go_ret;exact ⟨by rw [dec_lt n h];rfl,P6⟩
  · have hq:(J3 (dec (n / 10))).size<=100000001:=by rw [I5];exact jK _ O0 O0
    have H:Hid (∀ w,Calls prog 183 #[.int .i64 (IntKind.i64.wrap (n.tdiv 10))] w fun e w'=>e=.returned (vS (J3 (dec (n / 10))))/\Bw w w'):=by
     rw [uT n h0 h1];exact fun w=>ih (n / 10) w O0 O0 O0
    have b:Hid (Ending.returned (vS (J3 (dec (n / 10))++strOfNums [48+n % 10]))=.returned (vS (J3 (dec n)))):=by
     rw [Tj n O0,FP];rfl
    clear ih;go_enter func183,ntmps183
    go_wp2_with fail
    go_region_with (go_at_call 183;refine (H.out _).mono ?_;rintro e w1 ⟨rfl,a⟩;(try (have hcb:=a1i a)))
    all_goals go_wp2
    all_goals go_ret
    all_goals refine ⟨?_,?_⟩
    all_goals first
     | exact b.out
     | exact (((Z4 w.heap.size w).drew).trans a).alloc a.size _
     | exact (((Z4 w.heap.size w).alloc H8 _).drew).trans (a.mono X4)
def n29 (l:List UInt8):Int:=if (1<=l.length/\l.length<=7)/\l.all j_=true/\dec (val l)=l then val l else -1
theorem wW (h:¬ (1<=l.length/\l.length<=7)):n29 l=-1:=by unfold n29;rw [if_neg (fun x=>h x.1)]
theorem sU (h:l.all j_=false):n29 l=-1:=by unfold n29;rw [if_neg (fun x=>by rw [h] at x;cases x.2.1)]
theorem XV (h:dec (val l)≠l):n29 l=-1:=by unfold n29;rw [if_neg (fun x=>h x.2.2)]
theorem oD (h:1<=l.length/\l.length<=7) (h2:l.all j_=true) (a:dec (val l)=l):n29 l=val l:=by unfold n29;rw [if_pos ⟨h,h2,a⟩]
theorem mM (l:List UInt8):decide (0<=n29 l/\n29 l<=40)=Yd l:=by
 by_cases h:Yd l=true
 · rw [h];have d:=h;simp only [Yd,V_,Ud] at d;obtain ⟨⟨h1,h2⟩,f⟩:=d;have hl:=vw l h2 h1 f;have e:=((xh l).1 h1).1;have g:1<=l.length:=pq.2 e;rw [oD ⟨g,O0⟩ h2 (ax l h2 h1).1];have:=jm l h2;simp only [Ud];omega
 · have d:Yd l=false:=by simpa using h
   rw [d];simp only [Ar];intro ⟨a,b⟩;unfold n29 at a b;by_cases c:(1<=l.length/\l.length<=7)/\l.all j_=true/\dec (val l)=l
   · rw [X7 c] at a b;have hd:=(VF ((val l).toNat+1) (val l) a O0).1;rw [c.2.2] at hd;rw [nK hd c.2.1 b] at d;cases d
   · rw [I7 c] at a;omega
theorem zL (l:List UInt8) (h:l.all j_=true):val l<10 ^ l.length:=by
 revert h;refine Hr (P:=fun l=>l.all j_=true->val l<10 ^ l.length) (by simp [val]) (fun l c a h=>?_) l;rw [Pn] at h;simp only [Vl,Qy,JA,V_] at h;have:=a h.1;have hc:=(Ld c).1 h.2;rw [He,D9,Si,Int.pow_succ];omega
theorem iM (l:List UInt8) (h:l.all j_=true) (hl:l.length<=7):val l<=10000000:=by
 have h1:=zL l h;have h2:(10:Int) ^ l.length<=10 ^ 7:=by exact_mod_cast Nat.pow_le_pow_right O0 hl
 omega
theorem c138 (s:BY) (w:World) (hs:s.size<=1048700):
 Calls prog 138 #[.string s] w fun e w'=>e=.returned (.int .i64 (n29 s.data.toList))/\Bw w w':=by
 by_cases h:1<=s.size/\s.size<=7
 · obtain ⟨h1,h2⟩:=h;go_enter func138,ntmps138;go_wp2;go_loop [3,4] (fun n i=>∃ k:Nat,k<=s.size/\i=.int .i64 k/\n=.int .i64 (val (s.data.toList.take k))/\0<=val (s.data.toList.take k)/\val (s.data.toList.take k)<=10000000/\Hid ((s.data.toList.take k).all j_=true)) (fun _ i=>s.size - (RowKit.intOf i).toNat)
   case atStart=>exact ⟨0,J4 _,rfl,rfl,by simp [val],by simp [val],rfl⟩
   case round=>
    obtain ⟨k,hk,rfl,rfl,m,hv1,ha⟩:=hrel;by_cases c:k<s.size
    · by_cases a:j_ s[k]=true
      · have d:=(Ld _).1 a;have hw:=Qn _ d;have l:=U0 (Zc _ s k c ha.out a);have g:Hid (val (s.data.toList.take (k+1))=val (s.data.toList.take k)*10+((s[k].toNat:Int) - 48)):=by
         rw [take_snoc s k c];exact He _ _
        have p:=U0 (iM _ l.out U7);clear a;go_wp2
        go_round
        case rel=>exact ⟨k+1,O0,by go_num,by rw [g.out],by rw [g.out];omega,p.out,l⟩
        case measure=>simp [RowKit.intOf];omega
      · have b:=U0 (sU (Je _ s k c (by simpa using a)));have d:(s[k].toNat:Int)<48\/57<(s[k].toNat:Int):=by
         rcases Om (s[k].toNat:Int) 48 with h | h
         · exact .inl h
         · rcases Om 57 (s[k].toNat:Int) with f | f
           · exact .inr f
           · exact absurd ((Ld _).2 ⟨h,f⟩) a
        clear a;rcases d with a | a
        all_goals
         go_wp2
         all_goals go_ret
         all_goals exact ⟨Jp b.out.symm,Z4 _ _⟩
    · have q:=U0 (Uc _ s k O0 ha.out);have r:Hid (s.data.toList.take k=s.data.toList):=l_ U7
      go_wp2_with fail
      refine (c183 _ _ _ m O0 (yu _)).mono ?_;rintro e w1 ⟨rfl,j⟩;rw [r.out];by_cases hd:dec (val s.data.toList)=s.data.toList
      · have b:=U0 (oD (by simpa using ⟨h1,h2⟩) q.out hd);have o:((J3 (dec (val s.data.toList))).toList==s.toList)=true:=by
         rw [hd,ByteArray.toList_eq,ByteArray.toList_eq];simp [J3]
        clear hd;go_wp2;go_ret;exact ⟨Jp b.out.symm,j⟩
      · have b:=U0 (XV hd);have o:((J3 (dec (val s.data.toList))).toList==s.toList)=false:=by
         rw [ByteArray.toList_eq,ByteArray.toList_eq];simpa [J3] using hd
        clear hd;go_wp2;go_ret;exact ⟨Jp b.out.symm,j⟩
 · have b:Hid (n29 s.data.toList=-1):=wW (by simpa using h);by_cases h1:1<=s.size
   all_goals
    go_enter func138,ntmps138;go_wp2
    all_goals go_ret
    all_goals exact ⟨Jp b.out.symm,Z4 _ _⟩
def vr (c:Int) (l:List UInt8):Bool:=
 if c=0\/c=1 then decide (l.length<=300) else if c=2 then Yd l else if c=3 then l.isEmpty else if c=4\/c=5\/c=7 then Y5 l else false
theorem QL (h:Yd l=true):l.length<=2:=by
 simp only [Yd,V_,Ud] at h;exact vw l h.1.2 h.1.1 h.2
theorem lF {c:Int} (h:300<l.length):vr c l=false:=by
 have h1:decide (l.length<=300)=false:=by simp only [Ar];omega
 have h2:Yd l=false:=by
  by_cases h2:Yd l=true
  · have:=QL h2;omega
  · simpa using h2
 have d:l.isEmpty=false:=by cases l with | nil=>simp at h | cons a r=>rfl
 have b:Y5 l=false:=by
  unfold Y5;have:decide (1<=l.length/\l.length<=20)=false:=by simp only [Ar];omega
  rw [this];rfl
 unfold vr;rw [h1,h2,d,b];split <;> (try rfl)
 split <;> (try rfl)
 split <;> (try rfl)
 split <;> rfl
theorem pM (c:Int) (s:BY) (w:World) (g:s.size<=1048700):
 Calls prog 169 #[.agg #[.int .i64 c,.string s]] w fun e w'=>e=.returned (.bool (vr c s.data.toList))/\Bw w w':=by
 have b:s.data.toList.length=s.size:=X4;by_cases a:c=0\/c=1
 · have hV:Hid (vr c s.data.toList=decide ((s.size:Int)<=300)):=by unfold vr;rw [if_pos a,b];simp [Hid];omega
   clear b;rcases a with rfl | rfl
   all_goals
    go_enter func169,ntmps169;go_wp2;go_ret;exact ⟨J9 (by rw [hV.out]),P6⟩
 by_cases h2:c=2
 · subst h2;have hV:Hid (vr 2 s.data.toList=Yd s.data.toList):=rfl;clear b a;go_enter func169,ntmps169
   go_wp2_with fail
   refine (a4a _ _ g).mono ?_;rintro e h ⟨rfl,rfl⟩;go_wp2;go_ret;exact ⟨J9 (by rw [hV.out]),P6⟩
 by_cases d:c=3
 · subst d;have hV:Hid (vr 3 s.data.toList=s.toList.isEmpty):=by rw [ByteArray.toList_eq];rfl
   clear b a h2;go_enter func169,ntmps169;go_wp2;go_ret;exact ⟨J9 (by rw [hV.out]),P6⟩
 by_cases f:c=4\/c=5\/c=7
 · have hV:Hid (vr c s.data.toList=Y5 s.data.toList):=by unfold vr;rw [if_neg a,if_neg h2,if_neg d,if_pos f];rfl
   clear b a h2 d;rcases f with rfl | rfl | rfl
   all_goals
    go_enter func169,ntmps169
    go_wp2_with fail
    refine (c116 _ _ g).mono ?_;rintro e h ⟨rfl,rfl⟩;go_wp2;go_ret;exact ⟨J9 (by rw [hV.out]),P6⟩
 · have hV:Hid (vr c s.data.toList=false):=by unfold vr;rw [if_neg a,if_neg h2,if_neg d,if_neg f];rfl
   have e0:(c==0)=false:=U7;have e1:(c==1)=false:=U7;have e2:(c==2)=false:=U7;have e3:(c==3)=false:=U7;have e4:(c==4)=false:=U7;have e5:(c==5)=false:=U7;have e7:(c==7)=false:=U7;clear b a h2 d f;go_enter func169,ntmps169;go_wp2;go_ret;exact ⟨J9 (by rw [hV.out]),P6⟩
theorem jI (c:Int) (s:BY) (w:World) (g:s.size<=1048700):
 Calls prog 100 #[.agg #[.int .i64 c,.string s]] w fun e w'=>e=.returned (.bool (vr c s.data.toList))/\Bw w w':=by
 have b:s.data.toList.length=s.size:=X4;by_cases a4l:300<s.size
 · have hV:Hid (vr c s.data.toList=false):=lF O0;clear b;go_enter func100,ntmps100;go_wp2;go_ret;exact ⟨J9 (by rw [hV.out]),P6⟩
 by_cases a:c=0\/c=1
 · have hV:Hid (vr c s.data.toList=true):=by unfold vr;rw [if_pos a,b];simp [Hid];omega
   clear b;rcases a with rfl | rfl
   all_goals
    go_enter func100,ntmps100;go_wp2;go_ret;exact ⟨J9 (by rw [hV.out]),P6⟩
 by_cases h2:c=2
 · subst h2;have hV:Hid (vr 2 s.data.toList=Yd s.data.toList):=rfl;clear b a;go_enter func100,ntmps100
   go_wp2_with fail
   refine (c138 _ _ g).mono ?_;rintro e h ⟨rfl,i⟩
   go_wp2_with fail
   refine (xG _ _ _ _).mono ?_;rintro e w2 ⟨rfl,rfl⟩;go_wp2;go_ret;refine ⟨J9 (by rw [hV.out];rw [<- mM];simp),P6.trans (i.mono X4)⟩
 by_cases d:c=3
 · subst d;have hV:Hid (vr 3 s.data.toList=s.toList.isEmpty):=by rw [ByteArray.toList_eq];rfl
   clear b a h2;go_enter func100,ntmps100;go_wp2;go_ret;exact ⟨J9 (by rw [hV.out]),P6⟩
 by_cases f:c=4\/c=5\/c=7
 · have hV:Hid (vr c s.data.toList=Y5 s.data.toList):=by unfold vr;rw [if_neg a,if_neg h2,if_neg d,if_pos f];rfl
   clear b a h2 d;rcases f with rfl | rfl | rfl
   all_goals
    go_enter func100,ntmps100
    go_wp2_with fail
    refine (NJ _ _ g).mono ?_;rintro e h ⟨rfl,rfl⟩;go_wp2;go_ret;exact ⟨J9 (by rw [hV.out]),P6⟩
 · have hV:Hid (vr c s.data.toList=false):=by unfold vr;rw [if_neg a,if_neg h2,if_neg d,if_neg f];rfl
   have e0:(c==0)=false:=U7;have e1:(c==1)=false:=U7;have e2:(c==2)=false:=U7;have e3:(c==3)=false:=U7;have e4:(c==4)=false:=U7;have e5:(c==5)=false:=U7;have e7:(c==7)=false:=U7;clear b a h2 d f;go_enter func100,ntmps100;go_wp2;go_ret;exact ⟨J9 (by rw [hV.out]),P6⟩
def Uk (l:List UInt8):Bool:=Ob l&&l.all j_&&decide (val l<=7)
def yH (l:List UInt8):Int:=if Uk l=true then val l else 0
theorem yK (h:Ob l=false):Uk l=false:=by simp [Uk,h]
theorem pR (h:l.all j_=false):Uk l=false:=by simp only [Uk,h,Nu,jy]
theorem a0i (k:Nat) (h:7<val (l.take k)):Uk l=false:=by
 by_cases ha:l.all j_=true
 · have:=jo l ha k;have hd:decide (val l<=7)=false:=by simp only [Ar];omega
   simp only [Uk,hd,Nu]
 · exact pR (by simpa using ha)
theorem uZ (h1:Ob l=true) (h2:l.all j_=true) (a:val l<=7):Uk l=true:=by
 have hd:decide (val l<=7)=true:=by simpa using a
 simp only [Uk,h1,h2,hd,II]
theorem mF (h:Uk l=false):yH l=0:=by simp [yH,h]
theorem kF (h:Uk l=true):yH l=val l:=by simp [yH,h]
theorem a0E (s:BY) (w:World) (hs:s.size<=1048700):
 Calls prog 202 #[.string s,.int .i64 7] w fun e w'=>e=.returned (.tuple #[.int .i64 (yH s.data.toList),.bool (Uk s.data.toList)])/\w'=w:=by
 by_cases h0:s.size=0
 · have e0:s.toList=[]:=by
    rw [ByteArray.toList_eq];exact Va.1 (by simpa using h0)
   have a:Hid (Uk s.data.toList=false):=yK (by rw [<- ByteArray.toList_eq,e0];rfl);go_enter func202,ntmps202;go_wp2;go_ret2;exact ⟨Ia (mF a.out).symm a.out.symm,rfl⟩
 · have e0:s.toList.isEmpty=false:=by rw [ByteArray.toList_eq];exact uo s O0
   have e1:¬ s.toList=[]:=fun h=>by rw [h] at e0;cases e0
   have r:0<s.size:=O0;have g:=Ep s r;by_cases hl:Ob s.data.toList=true
   · have v:=U0 hl;have hc:(s[0].toNat=48/\s.toList=[48])\/((s[0].toNat:Int)==48)=false:=by
      by_cases c:s[0].toNat=48
      · refine .inl ⟨c,?_⟩;have h1:s[0]=48:=Yh.1 c;rw [ByteArray.toList_eq];exact ((xh _).1 hl).2 (by rw [g];exact h1)
      · exact .inr U7
     clear hl g;rcases hc with ⟨c,d⟩ | c
     all_goals
      go_enter func202,ntmps202;go_wp2;go_loop [6,21] (fun n i=>∃ k:Nat,k<=s.size/\i=.int .i64 k/\n=.int .i64 (val (s.data.toList.take k))/\0<=val (s.data.toList.take k)/\val (s.data.toList.take k)<=7/\Hid ((s.data.toList.take k).all j_=true)) (fun _ i=>s.size - (RowKit.intOf i).toNat)
      case atStart=>exact ⟨0,J4 _,rfl,rfl,by simp [val],by simp [val],rfl⟩
      case round=>
       obtain ⟨k,hk,rfl,rfl,hv0,q,ha⟩:=hrel;by_cases j:k<s.size
       · by_cases b:j_ s[k]=true
         · have l:=(Ld _).1 b;have hw:=Qn _ l;have u:=U0 (Zc _ s k j ha.out b);have f:Hid (val (s.data.toList.take (k+1))=val (s.data.toList.take k)*10+((s[k].toNat:Int) - 48)):=by
            rw [take_snoc s k j];exact He _ _
           clear b;by_cases t:7<val (s.data.toList.take k)*10+((s[k].toNat:Int) - 48)
           · have a:=U0 (a0i (k+1) (by rw [f.out];exact t));go_wp2;go_ret2;exact ⟨Ia (mF a.out).symm a.out.symm,rfl⟩
           · go_wp2
             go_round
             case rel=>exact ⟨k+1,O0,by go_num,by rw [f.out],by rw [f.out];omega,by rw [f.out];omega,u⟩
             case measure=>simp [RowKit.intOf];omega
         · have a:=U0 (pR (Je _ s k j (by simpa using b)));have l:(s[k].toNat:Int)<48\/57<(s[k].toNat:Int):=by
            rcases Om (s[k].toNat:Int) 48 with h | h
            · exact .inl h
            · rcases Om 57 (s[k].toNat:Int) with o | o
              · exact .inr o
              · exact absurd ((Ld _).2 ⟨h,o⟩) b
           clear b;rcases l with b | b
           all_goals
            go_wp2
            all_goals go_ret2
            all_goals exact ⟨Ia (mF a.out).symm a.out.symm,rfl⟩
       · have p:=Uc _ s k O0 ha.out;have m:s.data.toList.take k=s.data.toList:=l_ U7;have a:=U0 (uZ v.out p (by rw [<- m];exact q));have x:=U0 m;clear p m;go_wp2;go_ret2;exact ⟨Ia (by rw [kF a.out,x.out]) a.out.symm,rfl⟩
   · have a:=U0 (yK (by simpa using hl));have c:s[0].toNat=48/\¬ s.toList=[48]:=by
      rw [ByteArray.toList_eq] at e1 ⊢;rw [xh,g] at hl;by_cases h1:s[0]=48
      · refine ⟨by rw [h1];rfl,fun d=>hl ⟨e1,fun _=>d⟩⟩
      · exact absurd ⟨e1,fun h=>absurd h h1⟩ hl
     obtain ⟨c,d⟩:=c;have hz':(!s.toList==[48])=true:=by simpa using d
     clear g hl;go_enter func202,ntmps202;go_wp2;go_ret2;exact ⟨Ia (mF a.out).symm a.out.symm,rfl⟩
theorem TY (l:List UInt8):((Lib.cut l [58]).2.2=true/\l=(Lib.cut l [58]).1++58::(Lib.cut l [58]).2.1/\(58:UInt8)∉(Lib.cut l [58]).1)\/((Lib.cut l [58]).2.2=false/\(Lib.cut l [58]).1=l/\(58:UInt8)∉l):=by
 unfold Lib.cut;rw [Lib.index_one];have hge:=Lib.indexByte_ge l 58;by_cases h:Lib.indexByte l 58=-1
 · rw [h,I7 O0];refine .inr ⟨rfl,rfl,fun hm=>?_⟩;obtain ⟨k,a,e⟩:=Zd hm;exact Lib.indexByte_none h k (by rw [Z8 a,e])
 · obtain ⟨o,ho⟩:∃ o:Nat,Lib.indexByte l 58=o:=⟨(Lib.indexByte l 58).toNat,O0⟩;obtain ⟨h1,h2⟩:=Lib.indexByte_some ho;have hl:o<l.length:=by
    rcases Q7 o l.length with h | h
    · exact h
    · rw [Yb h] at h1;cases h1
   rw [ho,X7 O0];refine .inl ⟨rfl,?_,fun hm=>?_⟩
   · simp only [UA,Si];have hx:l[o]=58:=by rw [Z8 hl] at h1;exact w_ h1
     conv=>lhs;rw [<- Hl o l,Xz hl,hx]
   · simp only [UA] at hm;obtain ⟨k,a,e⟩:=Zd hm;rw [B_] at a;rw [fE] at e;exact h2 k O0 (by rw [Z8 O0,e])
def Dc (w:World):Prop:=5<w.heap.size/\∃ m,w.cell? ⟨5,0,none⟩=some (.int .i64 m)
theorem x9 {w':World} (h:Dc w) (a:Bw w w'):Dc w':=by
 obtain ⟨h1,m,hm⟩:=h;exact ⟨O9 h1 a.size,m,by rw [a.cell (by exact h1)];exact hm⟩
theorem below_drewN (n:Nat):Bw w (w.drewN n):=⟨rfl,rfl,rfl,v_ _,fun _ _=>rfl⟩
theorem zT (l:List UInt8) (w:World) (hs:l.length<=1048700) (hm:Dc w):
 Calls prog 201 #[.string (J3 l),.string ⟨#[58]⟩] w fun e w'=>e=.returned (.tuple #[.string (J3 (Lib.cut l [58]).1),.string (J3 (Lib.cut l [58]).2.1),.bool (Lib.cut l [58]).2.2])/\Bw w w':=by
 obtain ⟨_,m,hm⟩:=hm;refine (Tryz.strings_Cut (J3 l) ⟨#[58]⟩ m w (by rw [I5];omega) hm).mono ?_;rintro e w' ⟨rfl,n,rfl⟩;exact ⟨rfl,below_drewN n⟩
