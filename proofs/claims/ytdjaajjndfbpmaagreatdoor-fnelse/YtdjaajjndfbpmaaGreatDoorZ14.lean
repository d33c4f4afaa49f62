import Derived.Test.YtdjaajjndfbpmaaGreatDoorT9
import Derived.Test.YtdjaajjndfbpmaaGreatDoorZ24
set_option linter.unusedVariables false
set_option maxHeartbeats 8000000
set_option maxRecDepth 100000
namespace Go.Proofs.YtdjaajjndfbpmaaGreatDoor
open Proofs.Tryz
open Go.RowKit
variable {w:World} {base g n size:Nat}
theorem Je {w':World} {ss:List (List UInt8)} (h:K7 w g ss) (a:Below w.heap.size w w'):K7 w' g ss:=
 ⟨D7 h.1 a.size,fun i b=>by rw [a.cell (by exact h.1)];exact h.2 i b⟩
theorem Ug {e:TypeId} {v:Value} {xs:List Value} (h:w.ownsRow base e size v n xs) (hn:0<n):∃ g a,v=.slice (some ⟨g,0,none⟩) n a:=by
 rcases h.2 with ⟨_,h0⟩ | ⟨g,cap,cur,hv,_⟩
 · omega
 exact ⟨g,cap,hv⟩
theorem T9 (s:ByteArray) (a b:Nat):(s.extract a b).data.toList=(s.data.toList.take b).drop a:=by
 rw [Vz,TA,Oz,Cr]
theorem c70 (s:ByteArray) (b:UInt8) (w:World) (hs:s.size<=1048700):
 Calls prog 70 #[.string s,.int .u8 b.toNat] w fun e w'=>(∃ g p,e=.returned (.slice (some ⟨g,0,none⟩) (E8 b s.data.toList).length p)/\w.heap.size<=g/\K7 w' g (E8 b s.data.toList))/\Below w.heap.size w w':=by
 obtain ⟨A,I,D,C,B⟩:=Ze uB;have hlen:s.data.toList.length=s.size:=X0;go_enter func70,ntmps70
 go_wp2_with fail
 go_loopw [5,6,7] (fun v fr i wr=>∃ (k f:Nat),k<=s.size/\f<=k/\i=.int .i64 k/\fr=.int .i64 f/\wr.ownsRow w.heap.size 9 1 v (M5 b (s.data.toList.take k)).1.length (Ll (M5 b (s.data.toList.take k)).1)/\Hid ((s.data.toList.take k).drop f=(M5 b (s.data.toList.take k)).2)/\Below w.heap.size w wr/\w.heap.size+1<=wr.heap.size) (fun _ _ i _=>s.size - (intOf i).toNat)
 case atStart=>exact ⟨0,0,I5 _,Q6 _,rfl,rfl,Om _ #[] 0 P9 (I5 _) rfl,rfl,bA,X0⟩
 obtain ⟨k,f,hk,hf,rfl,rfl,d,h,l,K⟩:=hrel;have hL:(M5 b (s.data.toList.take k)).1.length<=k:=by
  have:=ko b (s.data.toList.take k);rw [Jk] at this;omega
 by_cases F:k<s.size;rotate_left
 · have O:Hid (s.data.toList.take k=s.data.toList):=E_ O0
   have x:Hid (s.extract f s.size=Q3 (M5 b (s.data.toList.take k)).2):=v_ (by rw [T9,<- show k=s.size by omega];exact h.out);have J:Hid (E8 b s.data.toList=(M5 b (s.data.toList.take k)).1++[(M5 b (s.data.toList.take k)).2]):=by rw [O.out];rfl
   clear h;generalize M5 b (s.data.toList.take k)=st at*
   go_wp2_with (at_builtin;refine wpList_append_own _ rfl _ _ 79 rfl w.heap.size 9 A (.string ⟨#[]⟩) 1 16 underlying79 I D C B rfl K3 _ _ _ rfl (d.alloc _) ⟨wr.heap.size,0,none⟩ 1 1 [_] rfl rfl (cell_one_new _ _ _) (by intro u c;simp at c;subst c;rfl) (by unfold maxLen;omega) O0 J4 ?_;intro v' z n o _;obtain ⟨g,p,L⟩:=Ug n O0;subst L)
   go_ret;have t:=(l.alloc l.size _).grown o J4 (fun j r=>(d.lt j r).1);have E:z.ownsRow w.heap.size 9 1 (.slice (some ⟨g,0,none⟩) (st.1.length+1) p) (st.1.length+1) (Ll (E8 b s.data.toList)):=by
    rw [J.out,Df,<- x.out];exact n
   have H:(E8 b s.data.toList).length=st.1.length+1:=by rw [J.out];simp
   refine ⟨⟨g,p,by rw [H];rfl,(E.lt g rfl).1,je E H⟩,t⟩
 have q:Hid (M5 b (s.data.toList.take (k+1))=cst b (M5 b (s.data.toList.take k)) s[k]):=by rw [d_ s k F,vo];rfl
 have x:Hid (s.extract f k=Q3 (M5 b (s.data.toList.take k)).2):=v_ (by rw [T9];exact h.out);by_cases a:s[k]=b
 · have N:((s[k].toNat:Int)==(b.toNat:Int))=true:=by rw [a];simp
   have m:Hid (cst b (M5 b (s.data.toList.take k)) s[k]=((M5 b (s.data.toList.take k)).1++[(M5 b (s.data.toList.take k)).2],[])):=by unfold cst;rw [if_pos a];rfl
   have y:Hid ((s.data.toList.take (k+1)).drop (k+1)=[]):=Wj J4;clear a h;generalize M5 b (s.data.toList.take k)=st at*
   go_wp2_with (at_builtin;refine wpList_append_own _ rfl _ _ 79 rfl w.heap.size 9 A (.string ⟨#[]⟩) 1 16 underlying79 I D C B rfl K3 _ _ _ rfl (d.alloc _) ⟨wr.heap.size,0,none⟩ 1 1 [_] rfl rfl (cell_one_new _ _ _) (by intro u c;simp at c;subst c;rfl) (by unfold maxLen;omega) O0 J4 ?_;intro v' z n o _)
   go_roundw
   case rel=>
    have t:=(l.alloc l.size _).grown o J4 (fun j r=>(d.lt j r).1);refine ⟨k+1,k+1,O0,Q6 _,by go_num,by go_num,?_,?_,t,by have:=o.size;simp at this;omega⟩
    · rw [q.out,m.out,Q7,Df,<- x.out]
      exact n
    rw [q.out,m.out];exact y.out
   case measure=>simp [intOf];omega
 have N:((s[k].toNat:Int)==(b.toNat:Int))=false:=by
  simp only [Gi];intro e;exact a (Hg.1 O0)
 have m:Hid (cst b (M5 b (s.data.toList.take k)) s[k]=((M5 b (s.data.toList.take k)).1,(M5 b (s.data.toList.take k)).2++[s[k]])):=by unfold cst;rw [if_neg a];rfl
 have y:Hid ((s.data.toList.take (k+1)).drop f=(s.data.toList.take k).drop f++[s[k]]):=by rw [d_ s k F,RA J4];rfl
 clear a;generalize M5 b (s.data.toList.take k)=st at*;go_wp2;go_roundw
 case rel=>
  refine ⟨k+1,f,O0,O0,by go_num,rfl,?_,?_,l,K⟩
  · rw [q.out,m.out];exact d
  rw [q.out,m.out,y.out,h.out];rfl
 case measure=>simp [intOf];omega
theorem GQ (s:ByteArray) (w:World) (hs:s.size<=1048700):
 Calls prog 71 #[.string s,.int .i64 1] w fun e w'=>(∃ g A,e=.returned (.tuple #[.slice (some ⟨g,0,none⟩) 1 A,.string (Q3 (I1 s.data.toList))])/\w.heap.size<=g/\K7 w' g [O1 s.data.toList])/\Below w.heap.size w w':=by
 obtain ⟨D,J,H,F,E⟩:=Ze uB;have hlen:s.data.toList.length=s.size:=X0;go_enter func71,ntmps71
 go_wp2_with fail
 go_loopw [0,6,7] (fun K v i wr=>∃ (m:Nat) (t:ByteArray) (ss:List (List UInt8)),m<=1/\i=.int .i64 m/\K=.string t/\wr.ownsRow w.heap.size 9 1 v m (Ll ss)/\Hid ((m=0->t=s/\ss=[])/\(m=1->t=Q3 (I1 s.data.toList)/\ss=[O1 s.data.toList]))/\Below w.heap.size w wr/\w.heap.size+1<=wr.heap.size) (fun _ _ i _=>1 - (intOf i).toNat)
 case atStart=>exact ⟨0,s,[],I5 _,rfl,rfl,Om _ #[] 0 P9 (I5 _) rfl,⟨fun _=>⟨rfl,rfl⟩,fun h=>O0⟩,bA,X0⟩
 obtain ⟨m,t,ss,hm,rfl,rfl,a,hrel,p,hz⟩:=hrel;by_cases hlt:m<1;rotate_left
 · obtain rfl:m=1:=O0
   obtain ⟨rfl,rfl⟩:=hrel.out.2 rfl;clear hrel;obtain ⟨g,A,L⟩:=Ug a O0;subst L;go_wp2;go_ret2;exact ⟨⟨g,A,rfl,(a.lt g rfl).1,je a rfl⟩,p⟩
 obtain rfl:m=0:=O0;obtain ⟨rfl,rfl⟩:=hrel.out.1 rfl;clear hrel
 go_wp2_with fail
 go_loop [8] (fun n=>∃ k:Nat,k<=t.size/\n=.int .i64 k/\Hid ((t.data.toList.take k).all (· !=32)=true)) (fun n=>t.size - (intOf n).toNat)
 case atStart=>exact ⟨0,I5 _,rfl,rfl⟩
 obtain ⟨k,hk,rfl,y⟩:=hrel;by_cases I:k<t.size;rotate_left
 · obtain ⟨d,c⟩:=Kh (l:=t.data.toList) y.out O0 (.inl O0)
   have B:Hid (t.extract 0 k=Q3 (O1 t.data.toList)):=v_ (by rw [T9,d];rfl);have C:Hid (t.extract k t.size=Q3 (I1 t.data.toList)):=v_ (by rw [T9,c,E_ O0,Wj O0,Wj O0]);clear d c
   go_wp2_with (at_builtin;refine wpList_append_own _ rfl _ _ 79 rfl w.heap.size 9 D (.string ⟨#[]⟩) 1 16 underlying79 J H F E rfl K3 _ _ _ rfl (a.alloc _) ⟨wr.heap.size,0,none⟩ 1 1 [_] rfl rfl (cell_one_new _ _ _) (by intro u f;simp at f;subst f;rfl) (by unfold maxLen;omega) O0 J4 ?_;intro v' q r o _)
   go_roundw
   case rel=>
    have z:=(p.alloc p.size _).grown o J4 (fun j x=>(a.lt j x).1);refine ⟨1,_,[O1 t.data.toList],Q6 _,by go_num,rfl,?_,⟨fun h=>O0,fun _=>⟨C.out,rfl⟩⟩,z,by have:=o.size;simp at this;omega⟩;show q.ownsRow w.heap.size 9 1 _ 1 [.string (Q3 (O1 t.data.toList))];rw [<- B.out];exact r
   case measure=>simp [intOf]
 have a2l:(k:Int)<(t.size:Int):=O0;by_cases b:t[k]=32
 · have N:((t[k].toNat:Int) !=32)=false:=by rw [b];rfl
   obtain ⟨d,c⟩:=Kh (l:=t.data.toList) y.out O0 (.inr (by simp [I];exact b));have B:Hid (t.extract 0 k=Q3 (O1 t.data.toList)):=v_ (by rw [T9,d];rfl);have C:Hid (t.extract (k+1) t.size=Q3 (I1 t.data.toList)):=v_ (by rw [T9,c,E_ O0]);clear b d c
   go_wp2_with (at_builtin;refine wpList_append_own _ rfl _ _ 79 rfl w.heap.size 9 D (.string ⟨#[]⟩) 1 16 underlying79 J H F E rfl K3 _ _ _ rfl (a.alloc _) ⟨wr.heap.size,0,none⟩ 1 1 [_] rfl rfl (cell_one_new _ _ _) (by intro u f;simp at f;subst f;rfl) (by unfold maxLen;omega) O0 J4 ?_;intro v' q r o _)
   go_roundw
   case rel=>
    have z:=(p.alloc p.size _).grown o J4 (fun j x=>(a.lt j x).1);refine ⟨1,_,[O1 t.data.toList],Q6 _,by go_num,rfl,?_,⟨fun h=>O0,fun _=>⟨C.out,rfl⟩⟩,z,by have:=o.size;simp at this;omega⟩;show q.ownsRow w.heap.size 9 1 _ 1 [.string (Q3 (O1 t.data.toList))];rw [<- B.out];exact r
   case measure=>simp [intOf]
 have N:((t[k].toNat:Int) !=32)=true:=by
  simp only [vw];intro e;exact b (Hg.1 (by have:t[k].toNat=32:=O0;rw [this];rfl))
 have O:Hid ((t.data.toList.take (k+1)).all (· !=32)=true):=by
  rw [d_ t k I,Vi,y.out];simp [Hid,b]
 clear b;go_wp2
 go_round
 case rel=>exact ⟨k+1,O0,by go_num,O⟩
 case measure=>simp [intOf];omega
end Go.Proofs.YtdjaajjndfbpmaaGreatDoor
namespace Go.Proofs.YtdjaajjndfbpmaaGreatDoor
open Proofs.Tryz
open Go.RowKit
variable {a b:Int} {c:UInt8} {l q r t:List UInt8}
theorem zD (c:UInt8):A9 c=true↔32<=c.toNat/\c.toNat<=126/\c.toNat≠34/\c.toNat≠92:=by
 unfold A9;simp only [V7,Q_,Mr,Gi];omega
theorem JG:∀ a b:Fin 16,Cb.getD a.val 0=Cb.getD b.val 0->a=b:=K3
theorem Vp {a b:Nat} (d:a<16) (c:b<16) (h:Cb.getD a 0=Cb.getD b 0):a=b:=by
 have:=JG ⟨a,d⟩ ⟨b,c⟩ h;exact Fin.mk.inj this
theorem Ml (c:UInt8):c.toNat<256:=c.toNat_lt
theorem Ib (h:A9 c=true):qb c=[c]:=by unfold qb;rw [if_pos h]
theorem Yb (h:A9 c=false):qb c=[92,Cb.getD (c.toNat / 16) 0,Cb.getD (c.toNat % 16) 0]:=by unfold qb;rw [if_neg (by simp [h])]
theorem gq:A9 92=false:=K3
theorem rC (c:UInt8):qb c≠[]:=by
 cases h:A9 c
 · rw [Yb h];simp
 rw [Ib h];simp
theorem DL {d:UInt8} (h:qb c++r=qb d++q):c=d/\r=q:=by
 cases hc:A9 c <;> cases hd:A9 d
 · rw [Yb hc,Yb hd] at h
   simp only [Bc,Ba,Ye,Dh] at h;obtain ⟨h1,h2,h3⟩:=h;have lc:=Ml c;have ld:=Ml d;have e1:=Vp O0 O0 h1;have e2:=Vp O0 O0 h2;exact ⟨Hg.1 O0,h3⟩
 · rw [Yb hc,Ib hd] at h
   simp only [Bc,Ba,Ye] at h;rw [<- h.1,gq] at hd;cases hd
 · rw [Ib hc,Yb hd] at h
   simp only [Bc,Ba,Ye] at h;rw [h.1,gq] at hc;cases hc
 rw [Ib hc,Ib hd] at h;simpa using h
theorem Zx {R:List UInt8} (h:t.flatMap qb++R=l.flatMap qb):∃ r,R=r.flatMap qb/\l=t++r:=by
 induction t generalizing l with
 | nil=>exact ⟨l,by simpa using h,rfl⟩
 | cons c t ih=>
  cases l with
  | nil=>
   have:=rC c;simp at h;exact absurd h.1 this
  | cons d l=>
   simp only [Qe,y_] at h;obtain ⟨rfl,h2⟩:=DL h;obtain ⟨r,a,b⟩:=ih h2;exact ⟨r,a,by rw [b];rfl⟩
theorem rG (h:t.flatMap qb=l.flatMap qb):t=l:=by
 obtain ⟨r,a,b⟩:=Zx (t:=t) (l:=l) (R:=[]) (by simpa using h)
 cases r with
 | nil=>simpa using b.symm
 | cons c r=>
  have:=rC c;simp at a;exact absurd a.1 this
theorem Fh (h:V4 t=V4 l):t=l:=by
 unfold V4 at h;simp only [Ye,Dh,rF] at h;exact rG h
theorem vJ (l:List UInt8):l.length<=(l.flatMap qb).length:=by
 induction l with
 | nil=>simp
 | cons c l ih=>
  have:1<=(qb c).length:=iq.2 (rC c);simp only [Qe,Q7,u_];omega
theorem zm (l:List UInt8):l.length+2<=(V4 l).length:=by
 have:=vJ l;unfold V4;simp only [List.length_cons,List.length_append,List.length_nil];omega
theorem Dt:∀ a:Fin 16,Cb.getD a.val 0≠10/\Cb.getD a.val 0≠32:=K3
theorem aI (c:UInt8):(10:UInt8)∉qb c:=by
 cases h:A9 c
 · rw [Yb h]
   have lc:=Ml c;have h1:=(Dt ⟨c.toNat / 16,O0⟩).1;have h2:=(Dt ⟨c.toNat % 16,O0⟩).1;simp only [D_,Xf,Nk,not_or];exact ⟨K3,fun e=>h1 e.symm,fun e=>h2 e.symm⟩
 rw [Ib h];have:=(zD c).1 h;simp only [D_,Xf,Nk];intro e;rw [<- e] at this;simp at this
theorem Ur (l:List UInt8):(10:UInt8)∉V4 l:=by
 unfold V4;simp only [D_,P8,Tk,Xf,Nk,not_or];refine ⟨K3,fun ⟨c,_,h⟩=>aI c h,K3⟩
def hx (b:UInt8):Int:=if 48<=(b.toNat:Int)/\(b.toNat:Int)<=57 then (b.toNat:Int) - 48 else if 97<=(b.toNat:Int)/\(b.toNat:Int)<=102 then (b.toNat:Int) - 97+10 else -1
theorem TJ (h:a=b):Ending.returned (.int .i64 a)=.returned (.int .i64 b):=by rw [h]
theorem kD (c:UInt8) (w:World):
 Calls prog 104 #[.int .u8 c.toNat] w fun e w'=>e=.returned (.int .i64 (hx c))/\w'=w:=by
 have hc:=Ml c;have a:Hid (hx c=if 48<=(c.toNat:Int)/\(c.toNat:Int)<=57 then (c.toNat:Int) - 48 else if 97<=(c.toNat:Int)/\(c.toNat:Int)<=102 then (c.toNat:Int) - 97+10 else -1):=rfl;generalize (c.toNat:Int)=n at*;go_enter func104,ntmps104;go_wp2
 all_goals go_ret
 all_goals refine ⟨TJ ?_,rfl⟩
 all_goals rw [a.out]
 all_goals (repeat' split)
 all_goals omega
theorem Et (b:UInt8):(Lib.indexByte Cb b=-1/\∀ n,n<16->Cb.getD n 0≠b)\/∃ n:Nat,n<16/\Lib.indexByte Cb b=n/\Cb.getD n 0=b:=by
 have hge:=Lib.indexByte_ge Cb b;by_cases h:Lib.indexByte Cb b=-1
 · refine .inl ⟨h,fun n c e=>Lib.indexByte_none h n ?_⟩
   have a:n<Cb.length:=c;rw [<- e];simp [List.getD,F8 a]
 obtain ⟨o,ho⟩:∃ o:Nat,Lib.indexByte Cb b=o:=⟨(Lib.indexByte Cb b).toNat,O0⟩;obtain ⟨h1,_⟩:=Lib.indexByte_some ho;have a:o<Cb.length:=by
  rcases U5 o Cb.length with h | h
  · exact h
  rw [Xe h] at h1;cases h1
 exact .inr ⟨o,a,ho,by simp [List.getD,h1]⟩
theorem JM (b:UInt8) (w:World):
 Calls prog 192 #[.string ⟨#[48,49,50,51,52,53,54,55,56,57,97,98,99,100,101,102]⟩,.int .u8 b.toNat] w fun e w'=>e=.returned (.int .i64 (Lib.indexByte Cb b))/\w'=w:=by
 refine (Tryz.strings_IndexByte _ _ w).mono ?_;rintro e w' ⟨rfl,rfl⟩;refine ⟨TJ ?_,rfl⟩;have a:(b.toNat:Int).toNat.toUInt8=b:=X0;rw [a];rfl
theorem VH {x y:Bool} (h:a=b) (c:x=y):Ending.returned (.tuple #[.int .u8 a,.bool x])=.returned (.tuple #[.int .u8 b,.bool y]):=by rw [h,c]
def Ew (l:List UInt8) (c:UInt8) (ok:Bool):Prop:=(ok=true->A9 c=false/\∃ r,l=qb c++r)/\(ok=false->∀ d r,A9 d=false->l≠qb d++r)
theorem ME:∀ h l:Fin 16,bits BinOp.or IntKind.i64 (((h.val:Nat):Int)*16) ((l.val:Nat):Int)=16*((h.val:Nat):Int)+((l.val:Nat):Int):=by decide +kernel
theorem NI (h l:Nat) (b:h<16) (a:l<16):bits BinOp.or IntKind.i64 ((h:Int)*16) (l:Int) % 256=((UInt8.ofNat (16*h+l)).toNat:Int):=by
 have:=ME ⟨h,b⟩ ⟨l,a⟩;simp only at this;rw [this];simp
theorem Sy (h l:Nat) (hh:h<16) (hl:l<16):(UInt8.ofNat (16*h+l)).toNat / 16=h/\(UInt8.ofNat (16*h+l)).toNat % 16=l:=by
 have e:(UInt8.ofNat (16*h+l)).toNat=16*h+l:=J4;rw [e];omega
theorem fq (s:ByteArray) (h:2<s.size):∃ r,s.data.toList=s[0]::s[1]::s[2]::r:=by
 have d:s.data.toList.length=s.size:=X0;have g:∀ (k:Nat) (e:k<s.size),s.data.toList[k]'(by simpa using e)=s[k]:=fun k e=>by simp [lH]
 rcases hd:s.data.toList with _ | ⟨a,_ | ⟨b,_ | ⟨c,r⟩⟩⟩
 · rw [hd] at d;simp at d;omega
 · rw [hd] at d;simp at d;omega
 · rw [hd] at d;simp at d;omega
 have g0:=g 0 O0;have g1:=g 1 O0;have g2:=g 2 h;simp only [hd,List.getElem_cons_zero,List.getElem_cons_succ] at g0 g1 g2;exact ⟨r,by rw [<- g0,<- g1,<- g2]⟩
theorem pq {s:ByteArray} (h:2<s.size) (a:s[0]≠92\/(∀ n,n<16->Cb.getD n 0≠s[1])\/(∀ n,n<16->Cb.getD n 0≠s[2])) (c:UInt8):Ew s.data.toList c false:=by
 refine ⟨(fun h=>by cases h),fun _ d r f e=>?_⟩;obtain ⟨q,b⟩:=fq s h;rw [b,Yb f] at e;simp only [Bc,Ba,Ye] at e;have ld:=Ml d;rcases a with a | a | a
 · exact a e.1
 · exact a _ O0 e.2.1.symm
 exact a _ O0 e.2.2.1.symm
def JO (l:List UInt8) (e:Ending):Prop:=∃ c ok,e=.returned (.tuple #[.int .u8 (c:UInt8).toNat,.bool ok])/\Ew l c ok
theorem UO (s:ByteArray) (w:World) (hs:s.size<=1048700):
 Calls prog 172 #[.string s] w fun e w'=>JO s.data.toList e/\w'=w:=by
 by_cases h3:s.size<3
 · have a:Hid (Ew s.data.toList 0 false):=by
    refine ⟨(fun h=>by cases h),fun _ d r k e=>?_⟩;have:=V3 List.length e;rw [Yb k] at this;simp at this;omega
   go_enter func172,ntmps172;go_wp2;go_ret2;exact ⟨⟨0,false,rfl,a.out⟩,rfl⟩
 have hz0:0<s.size:=O0;have hz1:1<s.size:=O0;have j:2<s.size:=O0;by_cases i:s[0]=92;rotate_left
 · have a:=Q0 (pq j (.inl i) 0)
   have y:((s[0].toNat:Int) !=92)=true:=by
    simp only [vw];intro e;exact i (Hg.1 (by have:s[0].toNat=92:=O0;rw [this];rfl))
   clear i;go_enter func172,ntmps172;go_wp2;go_ret2;exact ⟨⟨0,false,rfl,a.out⟩,rfl⟩
 have y:((s[0].toNat:Int) !=92)=false:=by rw [i];rfl
 have B:=Q0 i;clear i;go_enter func172,ntmps172
 go_wp2_with fail
 refine (JM _ _).mono ?_;rintro e w' ⟨rfl,rfl⟩
 go_wp2_with fail
 refine (JM _ _).mono ?_;rintro e w' ⟨rfl,rfl⟩;rcases Et s[1] with ⟨p,f⟩ | ⟨h,t,p,f⟩
 · have a:=Q0 (pq j (.inr (.inl f)) 0)
   clear f;rw [p];go_wp2;go_ret2;exact ⟨⟨0,false,rfl,a.out⟩,rfl⟩
 rw [p];rcases Et s[2] with ⟨m,g⟩ | ⟨l,o,m,g⟩
 · have a:=Q0 (pq j (.inr (.inr g)) 0)
   clear f g;rw [m];go_wp2;go_ret2;exact ⟨⟨0,false,rfl,a.out⟩,rfl⟩
 rw [m];have ho:=NI h l t o;obtain ⟨v,u⟩:=Sy h l t o;have A:Hid (A9 (UInt8.ofNat (16*h+l))=false->qb (UInt8.ofNat (16*h+l))=([92,s[1],s[2]]:List UInt8)):=fun b=>by
  rw [Yb b,v,u,f,g]
 have z:Hid (A9 (UInt8.ofNat (16*h+l))=true->∀ d r,A9 d=false->s.data.toList≠qb d++r):=fun b d r k e=>by
  obtain ⟨q,n⟩:=fq s j;rw [n,Yb k] at e;simp only [Bc,Ba,Ye] at e;have ld:=Ml d;have e1:=Vp O0 t (e.2.1.symm.trans f.symm);have e2:=Vp O0 o (e.2.2.1.symm.trans g.symm);have x:d=UInt8.ofNat (16*h+l):=Hg.1 (by have:=Ml (UInt8.ofNat (16*h+l));omega);rw [<- x,k] at b;cases b
 clear f g v u;generalize UInt8.ofNat (16*h+l)=c at*
 go_wp2_with fail
 rw [ho];refine (RN c _).mono ?_;rintro e w' ⟨rfl,hw⟩;obtain rfl:=hw.symm;cases b:A9 c
 · have a:Hid (Ew s.data.toList c true):=by
    refine ⟨fun _=>⟨b,?_⟩,(fun h=>by cases h)⟩;obtain ⟨q,n⟩:=fq s j;exact ⟨q,by rw [n,A.out b,B.out];rfl⟩
   clear b;go_wp2;go_ret2;exact ⟨⟨c,true,VH rfl rfl,a.out⟩,rfl⟩
 have a:Hid (Ew s.data.toList 0 false):=⟨(fun h=>by cases h),fun _=>z.out b⟩;clear b;go_wp2;go_ret2;exact ⟨⟨0,false,rfl,a.out⟩,rfl⟩
end Go.Proofs.YtdjaajjndfbpmaaGreatDoor
