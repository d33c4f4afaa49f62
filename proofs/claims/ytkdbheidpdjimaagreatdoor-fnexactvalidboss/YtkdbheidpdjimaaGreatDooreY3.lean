import Derived.Test.YtkdbheidpdjimaaGreatDooreQC
import Derived.Test.YtkdbheidpdjimaaGreatDooreYI
set_option maxRecDepth 100000
set_option linter.unusedVariables false
set_option maxHeartbeats 8000000
namespace Go.Proofs.YtkdbheidpdjimaaGreatDoor
open Proofs.Tryz Go.RowKit
def QY (q t:List UInt8) (ok:Bool):Prop:=(ok=true->q=X5 t)/\(ok=false->∀ l,q≠X5 l)
def fM (q:List UInt8) (e:Ending):Prop:=∃ t ok,e=.returned (.tuple #[.string (Y2 t),.bool ok])/\QY q t ok
theorem ext_list (s:BY) (a b:Nat):(s.extract a b).data.toList=(s.data.toList.take b).drop a:=by
 rw [ByteArray.data_extract,Array.toList_extract,List.extract_eq_take_drop,TI]
theorem drop_at (s:BY) (k:Nat) (h:k<s.size):s.data.toList.drop k=s[k]::s.data.toList.drop (k+1):=by
 rw [Xz (by simpa using h)];rfl
theorem pR (q:BY) (h2:2<=q.size) (hf:(q[0].toNat:Int)=34) (hl:(q[q.size - 1].toNat:Int)=34):q.data.toList=34::((q.extract 1 (q.size - 1)).data.toList++[34]):=by
 have e0:q[0]=34:=Ei.1 (by
  have:q[0].toNat=34:=O0;rw [this];rfl)
 have e1:q[q.size - 1]=34:=Ei.1 (by
  have:q[q.size - 1].toNat=34:=O0;rw [this];rfl)
 have hlen:q.data.toList.length=q.size:=I4;have t1:q.data.toList=q.data.toList.take (q.size - 1)++q.data.toList.drop (q.size - 1):=(Gi _ _).symm;have b:=drop_at q (q.size - 1) O0;rw [e1,zq (show q.data.toList.length<=q.size - 1+1 by omega)] at b;have a:=drop_at q 0 O0;rw [e0] at a;simp only [UC,E8] at a;rw [ext_list];have t2:q.data.toList.take (q.size - 1)=34::(q.data.toList.take (q.size - 1)).drop 1:=by
  obtain ⟨m,hm⟩:∃ m,q.size - 1=m+1:=⟨q.size - 2,O0⟩;rw [hm]
  conv=>lhs;rw [a]
  rw [a];simp
 rw [<- Uf,<- t2,<- b];exact t1
theorem cu {q:List UInt8} (h:q.length<2\/q.headD 0≠34\/q.getLastD 0≠34):∀ l,q≠X5 l:=by
 intro l e;subst e;rcases h with h | h | h
 · have:=Yo l;omega
 · exact h rfl
 · apply h;show (34::(l.flatMap qb++[34])).getLastD 0=34;rw [<- Uf,BI]
theorem ZP (s:BY) (k:Nat) (_:k<=s.size):s.data.toList=s.data.toList.take k++(s.extract k s.size).data.toList:=by
 rw [ext_list,u_ (show s.data.toList.length<=s.size by simp),Gi]
theorem xU (q:BY) (w:World) (hs:q.size<=1048700) (h2:2<=q.size) (hf:(q[0].toNat:Int)=34) (hl:(q[q.size - 1].toNat:Int)=34):
 Calls prog 173 #[.string q] w fun e w'=>fM q.data.toList e/\Bw w w':=by
 have L:=U0 (Lib.fresh_isBuilder 323 5 w);have C:=U0 (pR q h2 hf hl);have hz:(q.extract 1 (q.size - 1)).size<=1048700:=U7;go_enter func173,ntmps173
 go_wp2_with fail
 clear hf hl;generalize q.extract 1 (q.size - 1)=I at*;go_loopw [6] (fun i wr=>∃ (k:Nat) (t:List UInt8),k<=I.size/\i=.int .i64 k/\t.length<=k/\Hid (I.data.toList.take k=t.flatMap qb)/\Hid (Lib.IsBuilder 323 5 w.heap.size w.heap.size (Lib.byteCells t) wr)/\Below w.heap.size w wr/\w.heap.size+1<=wr.heap.size) (fun i _=>I.size - (intOf i).toNat)
 case atStart=>exact ⟨0,[],D5 _,rfl,Y9 _,rfl,L,o7,I4⟩
 case round=>
  obtain ⟨k,t,H,rfl,htk,j,s,m,z⟩:=hrel;by_cases A:k<I.size
  · go_wp2_with fail
    refine (a0n I[k] _).mono ?_;rintro e E ⟨rfl,p⟩;obtain rfl:=p.symm;cases hp:N_ I[k]
    · have K:=U0 hp;clear hp
      go_wp2_with fail
      refine (a2h _ _ U7).mono ?_;rintro e E ⟨⟨c,ok,rfl,g⟩,p⟩;obtain rfl:=p.symm;have D:Hid (I.data.toList=t.flatMap qb++(I.extract k I.size).data.toList):=by rw [<- j.out];exact ZP I k H
      cases ok
      · have v:Hid (QY q.data.toList [] false):=by
         refine ⟨(fun h=>by cases h),fun _ l e=>?_⟩;rw [C.out] at e;unfold X5 at e;simp only [Ci,zy,List.append_cancel_right_eq] at e;rw [D.out] at e;obtain ⟨r,hr,_⟩:=zH e;have b:(I.extract k I.size).data.toList=I[k]::I.data.toList.drop (k+1):=by
          rw [ext_list,u_ I4,drop_at I k A]
         cases r with
         | nil=>rw [hr] at b;cases b
         | cons d r=>
          rw [hr,Pg] at b;cases hd:N_ d
          · exact g.2 rfl d _ hd hr
          · rw [Jf hd] at b;simp only [Uf,M_,Ci] at b;rw [b.1,K.out] at hd;cases hd
        clear g;go_wp2;go_ret2;exact ⟨⟨[],false,rfl,v.out⟩,m⟩
      · have B:=U0 (g.1 rfl);clear g;have F:k+3<=I.size:=by
         obtain ⟨h1,r,h2⟩:=B.out;have:=P5 List.length h2;rw [Yf h1] at this;simp at this;omega
        have x:Hid (I.data.toList.take (k+3)=(t++[c]).flatMap qb):=by
         obtain ⟨h1,r,h2⟩:=B.out;have hl:(t.flatMap qb).length=k:=by rw [<- j.out];simp;omega
         rw [D.out,h2,<- oq,XI (by rw [N9,hl,Yf h1];simp),u_ (by rw [N9,hl,Yf h1];simp),Dq];simp [Hid]
        go_wp2_with fail
        refine (c218 w.heap.size w.heap.size (Lib.byteCells t) c.toNat _ s.out (by rw [Ap];omega) O0).mono ?_;rintro e n ⟨rfl,f,a⟩;have y:Hid (Lib.IsBuilder 323 5 w.heap.size w.heap.size (Lib.byteCells (t++[c])) n):=by rw [T_];exact f
        have u:=m.trans a;have o:=Q7 z a.size;clear f a;go_wp2;go_roundw
        case rel=>exact ⟨k+3,t++[c],F,by go_num,U7,x,y,u,o⟩
        case measure=>simp [intOf];omega
    · have x:Hid (I.data.toList.take (k+1)=(t++[I[k]]).flatMap qb):=by
       rw [take_snoc I k A,j.out,Dq];simp [Hid,Jf hp]
      clear hp
      go_wp2_with fail
      refine (c218 w.heap.size w.heap.size (Lib.byteCells t) _ _ s.out (by rw [Ap];omega) O0).mono ?_;rintro e n ⟨rfl,f,a⟩;have y:Hid (Lib.IsBuilder 323 5 w.heap.size w.heap.size (Lib.byteCells (t++[I[k]])) n):=by rw [T_];exact f
      have u:=m.trans a;have o:=Q7 z a.size;clear f a;go_wp2;go_roundw
      case rel=>exact ⟨k+1,t++[I[k]],O0,by go_num,U7,x,y,u,o⟩
      case measure=>simp [intOf];omega
  · have v:Hid (QY q.data.toList t true):=by
     refine ⟨fun _=>?_,(fun h=>by cases h)⟩;have:=j.out;rw [u_ U7] at this;rw [C.out,this];rfl
    go_wp2_with fail
    refine (Tryz.Builder_String_any w.heap.size w.heap.size t _ s.out O0).mono ?_;rintro e w4 ⟨rfl,J⟩;go_wp2;go_ret2;exact ⟨⟨t,true,rfl,v.out⟩,m.trans J⟩
theorem c173 (q:BY) (w:World) (d:q.size<=1048700):
 Calls prog 173 #[.string q] w fun e w'=>fM q.data.toList e/\Bw w w':=by
 by_cases h2:2<=q.size
 · have hz0:0<q.size:=O0;have hz1:q.size - 1<q.size:=O0;by_cases hf:(q[0].toNat:Int)=34
   · by_cases hl:(q[q.size - 1].toNat:Int)=34
     · exact xU q w d h2 hf hl
     · have a:Hid (fM q.data.toList (.returned (.tuple #[vE,.bool false]))):=by
        refine ⟨[],false,rfl,(fun h=>by cases h),fun _=>cu (.inr (.inr fun e=>hl ?_))⟩;have c:=drop_at q (q.size - 1) O0;rw [zq (show q.data.toList.length<=q.size - 1+1 by simp;omega)] at c;have:q.data.toList=q.data.toList.take (q.size - 1)++[q[q.size - 1]]:=by rw [<- c];exact (Gi _ _).symm
        rw [this] at e;simp at e;rw [e];rfl
       have e1:((q[q.size - 1].toNat:Int) !=34)=true:=by simpa using hl
       clear hl;go_enter func173,ntmps173;go_wp2;go_ret2;exact ⟨a.out,Z4 _ _⟩
   · have a:Hid (fM q.data.toList (.returned (.tuple #[vE,.bool false]))):=by
      refine ⟨[],false,rfl,(fun h=>by cases h),fun _=>cu (.inr (.inl fun e=>hf ?_))⟩;have b:=drop_at q 0 O0;simp only [UC] at b;rw [b] at e;simp at e;rw [e];rfl
     have e1:((q[0].toNat:Int) !=34)=true:=by simpa using hf
     clear hf;go_enter func173,ntmps173;go_wp2;go_ret2;exact ⟨a.out,Z4 _ _⟩
 · have a:Hid (fM q.data.toList (.returned (.tuple #[vE,.bool false]))):=⟨[],false,rfl,(fun h=>by cases h),fun _=>cu (.inl U7)⟩;go_enter func173,ntmps173;go_wp2;go_ret2;exact ⟨a.out,Z4 _ _⟩
end Go.Proofs.YtkdbheidpdjimaaGreatDoor
namespace Go.Proofs.YtkdbheidpdjimaaGreatDoor.T
open Proofs.Tryz Go.RowKit
theorem c17 (n a b:Int) (w:World):
 Calls prog 17 #[.int .i64 n,.int .i64 a,.int .i64 b] w fun e w'=>e=.returned (.bool (decide (a<=n/\n<=b)))/\w'=w:=by
 by_cases h1:a<=n <;> by_cases h2:n<=b
 all_goals
  go_enter func17,ntmps17;go_wp2
  all_goals go_ret
  all_goals exact ⟨by simp [*],rfl⟩
end Go.Proofs.YtkdbheidpdjimaaGreatDoor.T
namespace Go.Proofs.YtkdbheidpdjimaaGreatDoor
open Proofs.Tryz Go.RowKit
theorem a1N (n:Int) (w:World):
 Calls prog 334 #[.int .i64 n] w fun e w'=>e=.returned (.bool (decide (1<=n/\n<=200)))/\w'=w:=by
 by_cases h1:1<=n <;> by_cases h2:n<=200
 all_goals
  go_enter func334,ntmps334;go_wp2
  all_goals go_ret
  all_goals exact ⟨by simp [*],rfl⟩
