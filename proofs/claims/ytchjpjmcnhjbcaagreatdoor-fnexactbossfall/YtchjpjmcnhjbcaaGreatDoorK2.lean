import Derived.Test.YtchjpjmcnhjbcaaGreatDoorEZA
import Derived.Test.YtchjpjmcnhjbcaaGreatDoorQA
set_option linter.unusedVariables false
set_option maxRecDepth 100000
set_option maxHeartbeats 8000000
namespace Go.Proofs.YtchjpjmcnhjbcaaGreatDoor
open Proofs.Tryz Go.RowKit
def Rh (x:L4):Prop:=Y5 x.nm.data.toList=true/\((x.has=true/\((x.cd=0/\x.tx=⟨#[]⟩)\/(x.cd=4/\x.tx=x.nm)))\/(x.has=false/\vr x.cd x.tx.data.toList=true))
def Nl (P:Prop) (e:Ending):Prop:=∃ r,e=.returned (.bool r)/\(r=true↔P)
theorem J_ {P:Prop} (h:¬ P):Nl P (.returned (.bool false)):=⟨false,rfl,⟨fun h=>absurd h Xk,fun k=>absurd k h⟩⟩
theorem Nj {P:Prop} (h:P):Nl P (.returned (.bool true)):=⟨true,rfl,⟨fun _=>h,fun _=>rfl⟩⟩
theorem Un (x y:BY):x.toList=y.toList↔x=y:=⟨fun h=>by
 rw [ByteArray.toList_eq,ByteArray.toList_eq] at h;exact Df (Yk.1 h),fun h=>by rw [h]⟩
theorem a0g (x:BY):x.toList=[]↔x=⟨#[]⟩:=by
 rw [ByteArray.toList_eq];exact ⟨fun h=>Df (Yk.1 h),fun h=>by rw [h]⟩
theorem QC {x:L4} (h:Y5 x.nm.data.toList=false):¬ Rh x:=fun k=>absurd (k.1.symm.trans h) o6
theorem BP {x:L4} (b:Y5 x.nm.data.toList=true) (a:x.has=false):Rh x↔vr x.cd x.tx.data.toList=true:=by
 constructor
 · rintro ⟨_,⟨h,_⟩ | ⟨_,h⟩⟩
   · rw [a] at h;cases h
   · exact h
 · exact fun h=>⟨b,.inr ⟨a,h⟩⟩
theorem nP {x:L4} (b:Y5 x.nm.data.toList=true) (a:x.has=true):Rh x↔((x.cd=0/\x.tx.toList=[])\/(x.cd=4/\x.tx.toList=x.nm.toList)):=by
 rw [a0g,Un];constructor
 · rintro ⟨_,⟨_,h⟩ | ⟨h,_⟩⟩
   · exact h
   · rw [a] at h;cases h
 · exact fun h=>⟨b,.inl ⟨a,h⟩⟩
theorem a2y (b:Bool) (w:World):Calls prog 241 #[.bool b] w fun e w'=>e=.returned (.string (if b then ⟨#[49]⟩ else ⟨#[48]⟩))/\Bw w w':=by
 cases b
 · go_enter func241,ntmps241;go_wp2;go_ret;exact ⟨rfl,Z4 _ _⟩
 · go_enter func241,ntmps241;go_wp2;go_ret;exact ⟨rfl,Z4 _ _⟩
def d_ (m:M3):BY:=m.tl++⟨#[32]⟩++m.ar
theorem a0T (m:M3) (w:World) (hm:m.le 1048600):Calls prog 257 #[.agg #[.string m.nm,.string m.tl,.string m.ar]] w fun e w'=>e=.returned (.string (d_ m))/\Bw w w':=by
 have h1:=hm.2.1;have h2:=hm.2.2;have hB:∀ o,Bw w (w.alloc o):=fun o=>P6;go_enter func257,ntmps257;go_wp2;go_ret;exact ⟨rfl,hB _⟩
def zn (x:L4):BY:=if x.has then (if x.cd=0 then ⟨#[49]⟩ else ⟨#[48]⟩) else J3 (O8 x.cd x.tx.data.toList)
theorem a2g (x:L4) (w:World) (hx:x.tx.size<=1048700):Calls prog 283 #[.agg #[.bool x.has,.string x.nm,.int .i64 x.cd,.string x.tx]] w fun e w'=>e=.returned (.string (zn x))/\Bw w w':=by
 obtain ⟨h,nm,cd,tx⟩:=x;simp only at hx ⊢;have hB:∀ o,Bw w (w.alloc o):=fun o=>P6;cases h
 · go_enter func283,ntmps283
   go_wp2_with fail
   refine (ET cd tx _ hx).mono ?_;rintro e w1 ⟨rfl,a⟩;have c:=(hB (.cells #[.bool false,vS nm,vI cd,vS tx] 185)).trans (a.mono X4);clear a;go_wp2;go_ret;exact ⟨rfl,c⟩
 · by_cases h0:cd=0
   · subst h0;go_enter func283,ntmps283;go_wp2;go_ret;exact ⟨rfl,hB _⟩
   · have h1:(cd==0)=false:=by simpa using h0
     have b:Hid (zn ⟨true,nm,cd,tx⟩=⟨#[48]⟩):=by show zn _=_;unfold zn;simp [h0]
     go_enter func283,ntmps283;go_wp2;go_ret;exact ⟨by rw [b.out];rfl,hB _⟩
theorem c222 (a c:List G3) (C B:OA) (O N:Nat) (w:World) (hl:a.length<=1048576) (hl':c.length<=1048576) (A:R_ w C a) (z:R_ w B c):
 Calls prog 222 #[.slice C a.length O,.slice B c.length N] w fun e w'=>Rb (a=c) e/\Bw w w':=by
 by_cases g:a.length=c.length
 · rw [<- g];have m:=U0 g;clear g;obtain ⟨b,off,hc⟩:=Ph A;obtain ⟨b',s,y⟩:=Ph z;have S:=U0 hc;have R:=U0 y;clear hc y A z;go_enter func222,ntmps222
   go_wp2_with fail
   go_loopw [13] (fun i wr=>∃ (k:Nat),k<=a.length/\i=.int .i64 k/\Hid (∀ j,j<k->a.getD j Vg=c.getD j Vg)/\Below w.heap.size w wr) (fun i _=>a.length - (RowKit.intOf i).toNat)
   case atStart=>exact ⟨0,J4 _,rfl,fun j h=>absurd h (J8 _),Z4 _ _⟩
   case round=>
    obtain ⟨k,hk2,rfl,hd,f⟩:=hrel;have r:=f;by_cases l:k<a.length
    · obtain ⟨ha,u,q⟩:=Cc S.out l;rcases R.out with H | ⟨I,t,o⟩
      · have g:=m.out;rw [H] at g;rw [g] at l;exact absurd l (J8 _)
      subst ha;subst I;have g0:=(f.cell (p:=(aA b (off+k*3))) u).trans (q k l).1;have g1:=(f.cell (p:=(aA b (off+k*3+1))) u).trans (q k l).2.1;have g2:=(f.cell (p:=(aA b (off+k*3+2))) u).trans (q k l).2.2;have L:=(f.cell (p:=(aA b' (s+k*3))) t).trans (o k (by have:=m.out;omega)).1;have K:=(f.cell (p:=(aA b' (s+k*3+1))) t).trans (o k (by have:=m.out;omega)).2.1;have J:=(f.cell (p:=(aA b' (s+k*3+2))) t).trans (o k (by have:=m.out;omega)).2.2;clear q o;by_cases d:a.getD k Vg=c.getD k Vg
      · have Q:Hid (∀ j,j<k+1->a.getD j Vg=c.getD j Vg):=fun j hj=>by
         rcases Q7 j k with h | h
         · exact hd.out j h
         · obtain rfl:j=k:=O0;exact d
        rw [<- d] at L K J;generalize a.getD k Vg=X at*;clear d hd
        go_wp2_with fail
        go_region
        all_goals go_wp2
        all_goals go_roundw
        all_goals first
         | exact ⟨k+1,O0,by go_num,Q,f.drew⟩
         | (simp [RowKit.intOf];omega)
      · have n:Hid (¬ a=c):=fun h=>d (by rw [h]);generalize a.getD k Vg=X at*;generalize c.getD k Vg=Y at*;obtain ⟨n1,t1,E⟩:=X;obtain ⟨n2,t2,D⟩:=Y;by_cases x:n1=n2
        · subst x;by_cases v:t1=t2
          · subst v;have F:¬ E=D:=fun h=>d (by rw [h]);have q3':=Ub F;clear d
            go_wp2_with fail
            go_region
            all_goals go_wp2
            all_goals go_ret
            all_goals exact ⟨G5 n.out,r.drew⟩
          · have q2':=Ub v;clear d
            go_wp2_with fail
            go_region
            all_goals go_wp2
            all_goals go_ret
            all_goals exact ⟨G5 n.out,r.drew⟩
        · have q1':(n1==n2)=false:=by simpa using x
          clear d
          go_wp2_with fail
          go_region
          all_goals go_wp2
          all_goals go_ret
          all_goals exact ⟨G5 n.out,r.drew⟩
    · obtain rfl:k=a.length:=O0;have P:Hid (a=c):=by
       exact vG m.out hd.out
      go_wp2;go_ret;exact ⟨u_ P.out,r⟩
 · have n:Hid (¬ a=c):=fun h=>g (by rw [h]);have hn1:¬ (a.length:Int)=c.length:=O0;go_enter func222,ntmps222;go_wp2;go_ret;exact ⟨G5 n.out,Z4 _ _⟩
