import Derived.Test.YtkdbheidpdjimaaGreatDoorMathB
import Derived.Deep.RegionWith
set_option linter.unusedVariables false
set_option maxHeartbeats 8000000
set_option maxRecDepth 100000
namespace Go.Proofs.YtkdbheidpdjimaaGreatDoor
open Proofs.Tryz Go.RowKit
variable {l:List UInt8}
theorem J9 {a b:Bool} (h:a=b):Ending.returned (.bool a)=.returned (.bool b):=by rw [h]
theorem Md (p:UInt8->Bool) (s:BY) (k:Nat) (h:k<s.size) (ha:(s.data.toList.take k).all p=true) (a:p s[k]=true):(s.data.toList.take (k+1)).all p=true:=by
 rw [take_snoc s k h,Ho,ha];simpa using a
theorem Ye (p:UInt8->Bool) (s:BY) (k:Nat) (h:k<s.size) (a:p s[k]=false):s.data.toList.all p=false:=by
 rw [List.all_eq_false];exact ⟨s[k],by simp [ZI],by simp [a]⟩
theorem Td (p:UInt8->Bool) (s:BY) (k:Nat) (h:s.size<=k) (ha:(s.data.toList.take k).all p=true):s.data.toList.all p=true:=by
 rwa [u_ (by simpa using h)] at ha
theorem Ey (s:BY) (h:¬ (1<=s.size/\s.size<=20)):o6 s.data.toList=false:=by
 unfold o6;have:(decide (1<=s.data.toList.length/\s.data.toList.length<=20))=false:=by
  simp only [Xr];simpa using h
 rw [this];rfl
theorem MB (s:BY) (h:1<=s.size/\s.size<=20):o6 s.data.toList=s.data.toList.all Zj:=by
 unfold o6;have:(decide (1<=s.data.toList.length/\s.data.toList.length<=20))=true:=by
  simp only [Fe];simpa using h
 rw [this];rfl
theorem QN (s:BY) (w:World) (hs:s.size<=1048700):
 Calls prog 77 #[.string s] w fun e w'=>e=.returned (.bool (o6 s.data.toList))/\w'=w:=by
 by_cases h:1<=s.size/\s.size<=20
 · have b:=U0 (MB s h);obtain ⟨h1,h2⟩:=h;go_enter func77,ntmps77;go_wp2;go_loop [14] (fun i=>∃ k:Nat,k<=s.size/\i=.int .i64 k/\Hid ((s.data.toList.take k).all Zj=true)) (fun i=>s.size - (intOf i).toNat)
   case atStart=>exact ⟨0,D5 _,rfl,rfl⟩
   case round=>
    obtain ⟨k,hk,rfl,ha⟩:=hrel;by_cases d:k<s.size
    · by_cases a:Zj s[k]=true
      · have f:=(Np _).1 a;have g:=Hid.out ha;have j:=U0 (Md _ s k d ha.out a);clear a g;go_wp2
        go_round
        case rel=>exact ⟨k+1,O0,by go_num,j⟩
        case measure=>simp [intOf];omega
      · have hf:=U0 (Ye _ s k d (by simpa using a));have f:(s[k].toNat:Int)<33\/126<(s[k].toNat:Int):=by
         rcases zn (s[k].toNat:Int) 33 with h | h
         · exact .inl h
         · rcases zn 126 (s[k].toNat:Int) with c | c
           · exact .inr c
           · exact absurd ((Np _).2 ⟨h,c⟩) a
        clear a;rcases f with a | a
        all_goals
         go_wp2
         all_goals go_ret
         all_goals exact ⟨J9 (by rw [b.out,hf.out]),rfl⟩
    · go_wp2;go_ret;exact ⟨J9 (by rw [b.out,Td _ s k O0 ha.out]),rfl⟩
 · have b:=U0 (Ey s h);by_cases h1:1<=s.size
   all_goals
    go_enter func77,ntmps77;go_wp2
    all_goals go_ret
    all_goals exact ⟨J9 (by rw [b.out]),rfl⟩
theorem c23 (s:BY) (w:World) (hs:s.size<=1048700):
 Calls prog 23 #[.string s] w fun e w'=>e=.returned (.bool (o6 s.data.toList))/\w'=w:=by
 by_cases h:1<=s.size/\s.size<=20
 · have b:=U0 (MB s h);have hd:decide ((1:Int)<=(s.size:Int)/\(s.size:Int)<=20)=true:=U7;go_enter func23,ntmps23
   go_wp2_with fail
   refine (c17 _ _ _ _).mono ?_;rintro e w' ⟨rfl,rfl⟩;rw [hd];go_wp2;go_loop [3] (fun i=>∃ k:Nat,k<=s.size/\i=.int .i64 k/\Hid ((s.data.toList.take k).all Zj=true)) (fun i=>s.size - (intOf i).toNat)
   case atStart=>exact ⟨0,D5 _,rfl,rfl⟩
   case round=>
    obtain ⟨k,hk,rfl,ha⟩:=hrel;by_cases d:k<s.size
    · by_cases a:Zj s[k]=true
      · have f:=(Np _).1 a;have g:=U0 (Md _ s k d ha.out a);clear a;go_wp2
        go_round
        case rel=>exact ⟨k+1,O0,by go_num,g⟩
        case measure=>simp [intOf];omega
      · have hf:=U0 (Ye _ s k d (by simpa using a));have f:(s[k].toNat:Int)<33\/126<(s[k].toNat:Int):=by
         rcases zn (s[k].toNat:Int) 33 with h | h
         · exact .inl h
         · rcases zn 126 (s[k].toNat:Int) with c | c
           · exact .inr c
           · exact absurd ((Np _).2 ⟨h,c⟩) a
        clear a;rcases f with a | a
        all_goals
         go_wp2
         all_goals go_ret
         all_goals exact ⟨J9 (by rw [b.out,hf.out]),rfl⟩
    · go_wp2;go_ret;exact ⟨J9 (by rw [b.out,Td _ s k O0 ha.out]),rfl⟩
 · have b:=U0 (Ey s h);have hd:decide ((1:Int)<=(s.size:Int)/\(s.size:Int)<=20)=false:=by simp only [Xr];omega
   go_enter func23,ntmps23
   go_wp2_with fail
   refine (c17 _ _ _ _).mono ?_;rintro e w' ⟨rfl,rfl⟩;rw [hd];go_wp2;go_ret;exact ⟨J9 (by rw [b.out]),rfl⟩
theorem Vo (s:BY) (h:1<=s.size):s.data.toList.isEmpty=false:=by
 cases hl:s.data.toList with
 | nil=>
  have:s.data.toList.length=s.size:=I4;rw [hl] at this;simp at this;omega
 | cons a r=>rfl
theorem Ua {a b:Int} {x y:Bool} (h:a=b) (c:x=y):Ending.returned (.tuple #[.int .i64 a,.bool x])=.returned (.tuple #[.int .i64 b,.bool y]):=by rw [h,c]
def wQ (l:List UInt8):Int:=if Be l=true then val l else 0
theorem qh (l:List UInt8):Ub l=true↔l≠[]/\(l.headD 0=48->l=[48]):=by
 cases l with
 | nil=>simp [Ub]
 | cons a r=>
  by_cases h:a=48
  · simp [Ub,h]
  · simp [Ub,h]
theorem vH (h:Ub l=false):Be l=false:=by simp [Be,h]
theorem UK (h:l.all t_=false):Be l=false:=by simp only [Be,h,Uu,jA]
theorem fU (k:Nat) (h:40<val (l.take k)):Be l=false:=by
 by_cases ha:l.all t_=true
 · have:=Qo l ha k;have hd:decide (val l<=40)=false:=by simp only [Xr];omega
   simp only [Be,hd,Uu]
 · exact UK (by simpa using ha)
theorem JJ (h1:Ub l=true) (h2:l.all t_=true) (a:val l<=40):Be l=true:=by
 have hd:decide (val l<=40)=true:=by simpa using a
 simp only [Be,h1,h2,hd,SI]
theorem mJ (h:Be l=false):wQ l=0:=by simp [wQ,h]
theorem MX (h:Be l=true):wQ l=val l:=by simp [wQ,h]
theorem Ep (s:BY) (h:0<s.size):s.data.toList.headD 0=s[0]:=by
 have e:s.data.toList=s[0]::s.data.toList.tail:=by
  have hl:s.data.toList.length=s.size:=I4
  cases hd:s.data.toList with
  | nil=>rw [hd] at hl;simp at hl;omega
  | cons a r=>
   simp only [List.tail_cons]
   congr 1
   have:s[0]=s.data.toList[0]'(by simpa using h):=by simp [ZI]
   rw [this];simp [hd]
 rw [e];rfl
theorem jo (c:UInt8) (h:48<=(c.toNat:Int)/\(c.toNat:Int)<=57):IntKind.u8.wrap ((c.toNat:Int) - 48)=(c.toNat:Int) - 48:=by
 simp [IntKind.wrap,IntKind.signed,IntKind.bits];omega
theorem c168 (s:BY) (w:World) (hs:s.size<=1048700):
 Calls prog 168 #[.string s,.int .i64 40] w fun e w'=>e=.returned (.tuple #[.int .i64 (wQ s.data.toList),.bool (Be s.data.toList)])/\w'=w:=by
 by_cases h0:s.size=0
 · have e0:s.toList=[]:=by
    rw [ByteArray.toList_eq];exact Ya.1 (by simpa using h0)
   have a:Hid (Be s.data.toList=false):=vH (by rw [<- ByteArray.toList_eq,e0];rfl);go_enter func168,ntmps168;go_wp2;go_ret2;exact ⟨Ua (mJ a.out).symm a.out.symm,rfl⟩
 · have e0:s.toList.isEmpty=false:=by rw [ByteArray.toList_eq];exact Vo s O0
   have e1:¬ s.toList=[]:=fun h=>by rw [h] at e0;cases e0
   have r:0<s.size:=O0;have g:=Ep s r;by_cases hl:Ub s.data.toList=true
   · have v:=U0 hl;have hc:(s[0].toNat=48/\s.toList=[48])\/((s[0].toNat:Int)==48)=false:=by
      by_cases c:s[0].toNat=48
      · refine .inl ⟨c,?_⟩;have h1:s[0]=48:=Ei.1 c;rw [ByteArray.toList_eq];exact ((qh _).1 hl).2 (by rw [g];exact h1)
      · exact .inr U7
     clear hl g;rcases hc with ⟨c,d⟩ | c
     all_goals
      go_enter func168,ntmps168;go_wp2;go_loop [6,21] (fun n i=>∃ k:Nat,k<=s.size/\i=.int .i64 k/\n=.int .i64 (val (s.data.toList.take k))/\0<=val (s.data.toList.take k)/\val (s.data.toList.take k)<=40/\Hid ((s.data.toList.take k).all t_=true)) (fun _ i=>s.size - (intOf i).toNat)
      case atStart=>exact ⟨0,D5 _,rfl,rfl,by simp [val],by simp [val],rfl⟩
      case round=>
       obtain ⟨k,hk,rfl,rfl,hv0,q,ha⟩:=hrel;by_cases j:k<s.size
       · by_cases b:t_ s[k]=true
         · have l:=(Ce _).1 b;have hw:=jo _ l;have u:=U0 (Md _ s k j ha.out b);have f:Hid (val (s.data.toList.take (k+1))=val (s.data.toList.take k)*10+((s[k].toNat:Int) - 48)):=by
            rw [take_snoc s k j];exact Ve _ _
           clear b;by_cases t:40<val (s.data.toList.take k)*10+((s[k].toNat:Int) - 48)
           · have a:=U0 (fU (k+1) (by rw [f.out];exact t));go_wp2;go_ret2;exact ⟨Ua (mJ a.out).symm a.out.symm,rfl⟩
           · go_wp2
             go_round
             case rel=>exact ⟨k+1,O0,by go_num,by rw [f.out],by rw [f.out];omega,by rw [f.out];omega,u⟩
             case measure=>simp [intOf];omega
         · have a:=U0 (UK (Ye _ s k j (by simpa using b)));have l:(s[k].toNat:Int)<48\/57<(s[k].toNat:Int):=by
            rcases zn (s[k].toNat:Int) 48 with h | h
            · exact .inl h
            · rcases zn 57 (s[k].toNat:Int) with o | o
              · exact .inr o
              · exact absurd ((Ce _).2 ⟨h,o⟩) b
           clear b;rcases l with b | b
           all_goals
            go_wp2
            all_goals go_ret2
            all_goals exact ⟨Ua (mJ a.out).symm a.out.symm,rfl⟩
       · have p:=Td _ s k O0 ha.out;have m:s.data.toList.take k=s.data.toList:=u_ U7;have a:=U0 (JJ v.out p (by rw [<- m];exact q));have x:=U0 m;clear p m;go_wp2;go_ret2;exact ⟨Ua (by rw [MX a.out,x.out]) a.out.symm,rfl⟩
   · have a:=U0 (vH (by simpa using hl));have c:s[0].toNat=48/\¬ s.toList=[48]:=by
      rw [ByteArray.toList_eq] at e1 ⊢;rw [qh,g] at hl;by_cases h1:s[0]=48
      · refine ⟨by rw [h1];rfl,fun d=>hl ⟨e1,fun _=>d⟩⟩
      · exact absurd ⟨e1,fun h=>absurd h h1⟩ hl
     obtain ⟨c,d⟩:=c;have hz':(!s.toList==[48])=true:=by simpa using d
     clear g hl;go_enter func168,ntmps168;go_wp2;go_ret2;exact ⟨Ua (mJ a.out).symm a.out.symm,rfl⟩
def Y2 (l:List UInt8):BY:=⟨l.toArray⟩
theorem J5 (l:List UInt8):(Y2 l).size=l.length:=by simp [Y2,ByteArray.size]
theorem fP (l:List UInt8) (x:Int):Y2 (l++[UInt8.ofNat x.toNat])=Y2 l++strOfNums [x]:=by
 apply qg;simp [Y2,strOfNums]
theorem oW (u:World) (y:Int):(convert 243 9 (.slice (some ⟨u.heap.size,0,none⟩) 1 1)).run prog (u.alloc (.cells #[.int .u8 y] 5)).drew=.ok (.string (strOfNums [y])) (u.alloc (.cells #[.int .u8 y] 5)).drew:=
 run_convert_bytes_arg _ 243 5 underlying243 underlying5 _ 0 1 1 [y] rfl (fun i hi=>by
  obtain rfl:i=0:=O0;simp) 9 underlying9
theorem yZ {u a:World} {y:Int} (b:Below (u.alloc (.cells #[.int .u8 y] 5)).drew.heap.size (u.alloc (.cells #[.int .u8 y] 5)).drew a):
 (convert 243 9 (.slice (some ⟨u.heap.size,0,none⟩) 1 1)).run prog a=.ok (.string (strOfNums [y])) a:=
 run_convert_bytes_arg _ 243 5 underlying243 underlying5 _ 0 1 1 [y] rfl (fun i hi=>by
  obtain rfl:i=0:=O0;rw [b.cell I4];simp) 9 underlying9
theorem c148 (f:Nat):∀ (n:Int) (w:World),0<=n->n<=100000000->n.toNat<f->
 Calls prog 148 #[.int .i64 n] w fun e w'=>e=.returned (.string (Y2 (dec n)))/\Bw w w':=by
 induction f with
 | zero=>intro n w _ _ h;omega
 | succ f ih=>
  intro n w h0 h1 hf;have hcv:=dS;have hcd:=oW;have hz:∀ y,(strOfNums [y]).size=1:=fun y=>strOfNums_size [y];by_cases h:n<10
  · go_enter func148,ntmps148;go_wp2;go_ret;exact ⟨by rw [dec_lt n h];rfl,o7⟩
  · have hq:(Y2 (dec (n / 10))).size<=100000001:=by rw [J5];exact TJ _ O0 O0
    have H:Hid (∀ w,Calls prog 148 #[.int .i64 (IntKind.i64.wrap (n.tdiv 10))] w fun e w'=>e=.returned (vS (Y2 (dec (n / 10))))/\Bw w w'):=by
     rw [yQ n h0 h1];exact fun w=>ih (n / 10) w O0 O0 O0
    have b:Hid (Ending.returned (vS (Y2 (dec (n / 10))++strOfNums [48+n % 10]))=.returned (vS (Y2 (dec n)))):=by
     rw [Ko n O0,fP];rfl
    clear ih;go_enter func148,ntmps148
    go_wp2_with fail
    go_region_with (go_at_call 148;refine (H.out _).mono ?_;rintro e w1 ⟨rfl,a⟩;(try (have hcb:=yZ a)))
    all_goals go_wp2
    all_goals go_ret
    all_goals refine ⟨?_,?_⟩
    all_goals first
     | exact b.out
     | exact (((Z4 w.heap.size w).drew).trans a).alloc a.size _
     | exact (((Z4 w.heap.size w).alloc x9 _).drew).trans (a.mono I4)
def n29 (l:List UInt8):Int:=if (1<=l.length/\l.length<=7)/\l.all t_=true/\dec (val l)=l then val l else -1
theorem VS (h:¬ (1<=l.length/\l.length<=7)):n29 l=-1:=by unfold n29;rw [if_neg (fun x=>h x.1)]
theorem ET (h:l.all t_=false):n29 l=-1:=by unfold n29;rw [if_neg (fun x=>by rw [h] at x;cases x.2.1)]
theorem FT (h:dec (val l)≠l):n29 l=-1:=by unfold n29;rw [if_neg (fun x=>h x.2.2)]
theorem nD (h:1<=l.length/\l.length<=7) (h2:l.all t_=true) (a:dec (val l)=l):n29 l=val l:=by unfold n29;rw [if_pos ⟨h,h2,a⟩]
theorem ZM (l:List UInt8):decide (0<=n29 l/\n29 l<=40)=Be l:=by
 by_cases h:Be l=true
 · rw [h];have d:=h;simp only [Be,Fa,Fe] at d;obtain ⟨⟨h1,h2⟩,f⟩:=d;have hl:=Gv l h2 h1 f;have e:=((qh l).1 h1).1;have g:1<=l.length:=Gt.2 e;rw [nD ⟨g,O0⟩ h2 (Vw l h2 h1).1];have:=Vl l h2;simp only [Fe];omega
 · have d:Be l=false:=by simpa using h
   rw [d];simp only [Xr];intro ⟨a,b⟩;unfold n29 at a b;by_cases c:(1<=l.length/\l.length<=7)/\l.all t_=true/\dec (val l)=l
   · rw [G8 c] at a b;have hd:=(MG ((val l).toNat+1) (val l) a O0).1;rw [c.2.2] at hd;rw [JJ hd c.2.1 b] at d;cases d
   · rw [A8 c] at a;omega
theorem kL (l:List UInt8) (h:l.all t_=true):val l<10 ^ l.length:=by
 revert h;refine Lr (P:=fun l=>l.all t_=true->val l<10 ^ l.length) (by simp [val]) (fun l c a h=>?_) l;rw [Ho] at h;simp only [lm,Qy,Az,Fa] at h;have:=a h.1;have hc:=(Ce c).1 h.2;rw [Ve,N9,Ej,Int.pow_succ];omega
theorem EN (l:List UInt8) (h:l.all t_=true) (hl:l.length<=7):val l<=10000000:=by
 have h1:=kL l h;have h2:(10:Int) ^ l.length<=10 ^ 7:=by exact_mod_cast Nat.pow_le_pow_right O0 hl
 omega
theorem c97 (s:BY) (w:World) (hs:s.size<=1048700):
 Calls prog 97 #[.string s] w fun e w'=>e=.returned (.int .i64 (n29 s.data.toList))/\Bw w w':=by
 by_cases h:1<=s.size/\s.size<=7
 · obtain ⟨h1,h2⟩:=h;go_enter func97,ntmps97;go_wp2;go_loop [3,4] (fun n i=>∃ k:Nat,k<=s.size/\i=.int .i64 k/\n=.int .i64 (val (s.data.toList.take k))/\0<=val (s.data.toList.take k)/\val (s.data.toList.take k)<=10000000/\Hid ((s.data.toList.take k).all t_=true)) (fun _ i=>s.size - (intOf i).toNat)
   case atStart=>exact ⟨0,D5 _,rfl,rfl,by simp [val],by simp [val],rfl⟩
   case round=>
    obtain ⟨k,hk,rfl,rfl,m,hv1,ha⟩:=hrel;by_cases c:k<s.size
    · by_cases a:t_ s[k]=true
      · have d:=(Ce _).1 a;have hw:=jo _ d;have l:=U0 (Md _ s k c ha.out a);have g:Hid (val (s.data.toList.take (k+1))=val (s.data.toList.take k)*10+((s[k].toNat:Int) - 48)):=by
         rw [take_snoc s k c];exact Ve _ _
        have p:=U0 (EN _ l.out U7);clear a;go_wp2
        go_round
        case rel=>exact ⟨k+1,O0,by go_num,by rw [g.out],by rw [g.out];omega,p.out,l⟩
        case measure=>simp [intOf];omega
      · have b:=U0 (ET (Ye _ s k c (by simpa using a)));have d:(s[k].toNat:Int)<48\/57<(s[k].toNat:Int):=by
         rcases zn (s[k].toNat:Int) 48 with h | h
         · exact .inl h
         · rcases zn 57 (s[k].toNat:Int) with f | f
           · exact .inr f
           · exact absurd ((Ce _).2 ⟨h,f⟩) a
        clear a;rcases d with a | a
        all_goals
         go_wp2
         all_goals go_ret
         all_goals exact ⟨Fp b.out.symm,Z4 _ _⟩
    · have q:=U0 (Td _ s k O0 ha.out);have r:Hid (s.data.toList.take k=s.data.toList):=u_ U7
      go_wp2_with fail
      refine (c148 _ _ _ m O0 (Bv _)).mono ?_;rintro e w1 ⟨rfl,j⟩;rw [r.out];by_cases hd:dec (val s.data.toList)=s.data.toList
      · have b:=U0 (nD (by simpa using ⟨h1,h2⟩) q.out hd);have o:((Y2 (dec (val s.data.toList))).toList==s.toList)=true:=by
         rw [hd,ByteArray.toList_eq,ByteArray.toList_eq];simp [Y2]
        clear hd;go_wp2;go_ret;exact ⟨Fp b.out.symm,j⟩
      · have b:=U0 (FT hd);have o:((Y2 (dec (val s.data.toList))).toList==s.toList)=false:=by
         rw [ByteArray.toList_eq,ByteArray.toList_eq];simpa [Y2] using hd
        clear hd;go_wp2;go_ret;exact ⟨Fp b.out.symm,j⟩
 · have b:Hid (n29 s.data.toList=-1):=VS (by simpa using h);by_cases h1:1<=s.size
   all_goals
    go_enter func97,ntmps97;go_wp2
    all_goals go_ret
    all_goals exact ⟨Fp b.out.symm,Z4 _ _⟩
def vr (c:Int) (l:List UInt8):Bool:=
 if c=0\/c=1 then decide (l.length<=300) else if c=2 then Be l else if c=3 then l.isEmpty else if c=4\/c=5\/c=7 then o6 l else false
theorem pM (h:Be l=true):l.length<=2:=by
 simp only [Be,Fa,Fe] at h;exact Gv l h.1.2 h.1.1 h.2
theorem UE {c:Int} (h:300<l.length):vr c l=false:=by
 have h1:decide (l.length<=300)=false:=by simp only [Xr];omega
 have h2:Be l=false:=by
  by_cases h2:Be l=true
  · have:=pM h2;omega
  · simpa using h2
 have d:l.isEmpty=false:=by cases l with | nil=>simp at h | cons a r=>rfl
 have b:o6 l=false:=by
  unfold o6;have:decide (1<=l.length/\l.length<=20)=false:=by simp only [Xr];omega
  rw [this];rfl
 unfold vr;rw [h1,h2,d,b];split <;> (try rfl)
 split <;> (try rfl)
 split <;> (try rfl)
 split <;> rfl
theorem JM (c:Int) (s:BY) (w:World) (g:s.size<=1048700):
 Calls prog 132 #[.agg #[.int .i64 c,.string s]] w fun e w'=>e=.returned (.bool (vr c s.data.toList))/\Bw w w':=by
 have b:s.data.toList.length=s.size:=I4;by_cases a:c=0\/c=1
 · have hV:Hid (vr c s.data.toList=decide ((s.size:Int)<=300)):=by unfold vr;rw [if_pos a,b];simp [Hid];omega
   clear b;rcases a with rfl | rfl
   all_goals
    go_enter func132,ntmps132;go_wp2;go_ret;exact ⟨J9 (by rw [hV.out]),o7⟩
 by_cases h2:c=2
 · subst h2;have hV:Hid (vr 2 s.data.toList=Be s.data.toList):=rfl;clear b a;go_enter func132,ntmps132
   go_wp2_with fail
   refine (c168 _ _ g).mono ?_;rintro e h ⟨rfl,rfl⟩;go_wp2;go_ret;exact ⟨J9 (by rw [hV.out]),o7⟩
 by_cases d:c=3
 · subst d;have hV:Hid (vr 3 s.data.toList=s.toList.isEmpty):=by rw [ByteArray.toList_eq];rfl
   clear b a h2;go_enter func132,ntmps132;go_wp2;go_ret;exact ⟨J9 (by rw [hV.out]),o7⟩
 by_cases f:c=4\/c=5\/c=7
 · have hV:Hid (vr c s.data.toList=o6 s.data.toList):=by unfold vr;rw [if_neg a,if_neg h2,if_neg d,if_pos f];rfl
   clear b a h2 d;rcases f with rfl | rfl | rfl
   all_goals
    go_enter func132,ntmps132
    go_wp2_with fail
    refine (QN _ _ g).mono ?_;rintro e h ⟨rfl,rfl⟩;go_wp2;go_ret;exact ⟨J9 (by rw [hV.out]),o7⟩
 · have hV:Hid (vr c s.data.toList=false):=by unfold vr;rw [if_neg a,if_neg h2,if_neg d,if_neg f];rfl
   have e0:(c==0)=false:=U7;have e1:(c==1)=false:=U7;have e2:(c==2)=false:=U7;have e3:(c==3)=false:=U7;have e4:(c==4)=false:=U7;have e5:(c==5)=false:=U7;have e7:(c==7)=false:=U7;clear b a h2 d f;go_enter func132,ntmps132;go_wp2;go_ret;exact ⟨J9 (by rw [hV.out]),o7⟩
theorem c59 (c:Int) (s:BY) (w:World) (g:s.size<=1048700):
 Calls prog 59 #[.agg #[.int .i64 c,.string s]] w fun e w'=>e=.returned (.bool (vr c s.data.toList))/\Bw w w':=by
 have b:s.data.toList.length=s.size:=I4;by_cases a2v:300<s.size
 · have hV:Hid (vr c s.data.toList=false):=UE O0;clear b;go_enter func59,ntmps59;go_wp2;go_ret;exact ⟨J9 (by rw [hV.out]),o7⟩
 by_cases a:c=0\/c=1
 · have hV:Hid (vr c s.data.toList=true):=by unfold vr;rw [if_pos a,b];simp [Hid];omega
   clear b;rcases a with rfl | rfl
   all_goals
    go_enter func59,ntmps59;go_wp2;go_ret;exact ⟨J9 (by rw [hV.out]),o7⟩
 by_cases h2:c=2
 · subst h2;have hV:Hid (vr 2 s.data.toList=Be s.data.toList):=rfl;clear b a;go_enter func59,ntmps59
   go_wp2_with fail
   refine (c97 _ _ g).mono ?_;rintro e h ⟨rfl,i⟩
   go_wp2_with fail
   refine (c17 _ _ _ _).mono ?_;rintro e w2 ⟨rfl,rfl⟩;go_wp2;go_ret;refine ⟨J9 (by rw [hV.out];rw [<- ZM];simp),o7.trans (i.mono I4)⟩
 by_cases d:c=3
 · subst d;have hV:Hid (vr 3 s.data.toList=s.toList.isEmpty):=by rw [ByteArray.toList_eq];rfl
   clear b a h2;go_enter func59,ntmps59;go_wp2;go_ret;exact ⟨J9 (by rw [hV.out]),o7⟩
 by_cases f:c=4\/c=5\/c=7
 · have hV:Hid (vr c s.data.toList=o6 s.data.toList):=by unfold vr;rw [if_neg a,if_neg h2,if_neg d,if_pos f];rfl
   clear b a h2 d;rcases f with rfl | rfl | rfl
   all_goals
    go_enter func59,ntmps59
    go_wp2_with fail
    refine (c23 _ _ g).mono ?_;rintro e h ⟨rfl,rfl⟩;go_wp2;go_ret;exact ⟨J9 (by rw [hV.out]),o7⟩
 · have hV:Hid (vr c s.data.toList=false):=by unfold vr;rw [if_neg a,if_neg h2,if_neg d,if_neg f];rfl
   have e0:(c==0)=false:=U7;have e1:(c==1)=false:=U7;have e2:(c==2)=false:=U7;have e3:(c==3)=false:=U7;have e4:(c==4)=false:=U7;have e5:(c==5)=false:=U7;have e7:(c==7)=false:=U7;clear b a h2 d f;go_enter func59,ntmps59;go_wp2;go_ret;exact ⟨J9 (by rw [hV.out]),o7⟩
