import Derived.Test.YtkccjgajimjjdaaGreatDoorEZA
import Derived.Test.YtkccjgajimjjdaaGreatDoorSI
set_option linter.unusedVariables false
set_option maxHeartbeats 8000000
set_option maxRecDepth 100000
namespace Go.Proofs.YtkccjgajimjjdaaGreatDoor
open Proofs.Tryz Go.RowKit
variable{u w:World}{B base e n size:Nat}{old vs xs:List Value}{P:Program}{ops:Array Oper}{o:Oper}{a:Act}{v:Value}
theorem Mc{s t:BY}(h:¬s=t):¬s.toList=t.toList:=λe=>h (by
 apply Xf;rw[ByteArray.toList_eq,ByteArray.toList_eq]at e;exact Zl.1 e)
theorem qG{a b:List G3}(c:a.length=b.length)(h:∀j,j<a.length->a.getD j zh=b.getD j zh):a=b:=by
 refine dB c λj h1 h2=>?_;have:=h j h1;simpa[List.getD,L9 h1,L9 h2]using this
theorem c117(x y:R3)(A z:OA)(H F:Nat)(w:World)(hl:x.gs.length<=1048576)(hl':y.gs.length<=1048576)(N:R_ w A x.gs)(L:R_ w z y.gs):
 Calls prog 117 #[.agg #[.string x.key,.slice A x.gs.length H,.string x.out],.agg #[.string y.key,.slice z y.gs.length F,.string y.out]] w λe w'=>Rb (x=y) e/\Bw w w':=by
 obtain⟨g,a,f⟩:=x;obtain⟨q,c,p⟩:=y;simp only at hl hl' N L ⊢;obtain⟨V,hV⟩:∃V,V=((w.alloc (.cells #[vS g,vL A a.length H,vS f] 162)).alloc (.cells #[vS q,vL z c.length F,vS p] 162)):=⟨_,rfl⟩;have o:Bw w V:=by rw[hV];exact Y6.alloc E5 _
 have hz:V.heap.size=w.heap.size+2:=by rw[hV];simp
 have a1:V.cell? (aW w 1)=some (vL A a.length H):=by rw[hV];simp[go_sem]
 have Q:V.cell? (aA (w.heap.size+1) 1)=some (vL z c.length F):=by rw[hV];simp[go_sem]
 have P:=I9 N o;have O:=I9 L o;have s:=U0 hV;by_cases r:g=q
 ·by_cases ho:f=p
  ·by_cases l:a.length=c.length
   ·rw[<- l];rw[<- l]at Q;subst r;subst ho;rw[<- l]at s;have t:=U0 l;clear l;obtain⟨b,off,hc⟩:=Ai P;obtain⟨b',off',K⟩:=Ai O;have HC:=U0 hc;have HC':=U0 K;clear hc K P O
    go_in
    go_wp2_with fail
    rw[<- s.out];go_loopw[5] (λi wr=>∃(k:Nat),k<=a.length/\i=.int .i64 k/\Hid (∀j,j<k->a.getD j zh=c.getD j zh)/\Below V.heap.size V wr) (λi _=>a.length-(RowKit.intOf i).toNat);exact⟨0,J4 _,rfl,λj h=>absurd h (y9 _),G5 _ _⟩;obtain⟨k,hk2,rfl,hd,d⟩:=hrel;have v:=J5 o d;have e1:=(d.cell (by exact(show w.heap.size<V.heap.size by omega))).trans a1;have e2:=(d.cell (by exact(show w.heap.size+1<V.heap.size by omega))).trans Q;by_cases n:k<a.length
    ·obtain⟨ha,E,C⟩:=Jd HC.out n;rcases HC'.out with Z|⟨ha',D,B⟩
     ·have l:=t.out;rw[Z]at l;rw[l]at n;exact absurd n (y9 _)
     subst ha;subst ha';have g0:=(d.cell (by exact E)).trans (C k n).1;have g1:=(d.cell (by exact E)).trans (C k n).2.1;have g2:=(d.cell (by exact E)).trans (C k n).2.2;have g0':=(d.cell (by exact D)).trans (B k (by have:=t.out;omega)).1;have g1':=(d.cell (by exact D)).trans (B k (by have:=t.out;omega)).2.1;have g2':=(d.cell (by exact D)).trans (B k (by have:=t.out;omega)).2.2;by_cases u:a.getD k zh=c.getD k zh
     ·have HD:Hid (∀j,j<k+1->a.getD j zh=c.getD j zh):=λj hj=>by
       rcases D8 j k with h|h
       ·exact hd j h
       obtain rfl:j=k:=O0;exact u
      rw[<- u]at g0' g1' g2';generalize a.getD k zh=X at*
      go_wp2_with fail
      go_region
      all_goals go_wp2
      all_goals go_roundw
      all_goals first
       | exact⟨k+1,O0,by go_num,HD,d.drew⟩
       | (exact Z9)
     have m:Hid (¬R3.mk g a f=R3.mk g c f):=λh=>u (by injection h with _ h2;rw[h2]);generalize a.getD k zh=X at*;generalize c.getD k zh=Y at*;obtain⟨n1,R,U⟩:=X;obtain⟨n2,t2,S⟩:=Y;by_cases J:n1=n2
     ·subst J;by_cases I:R=t2
      ·subst I;have W:¬U=S:=λh=>u (by rw[h]);have q3':=Mc W
       go_wp2_with fail
       go_region
       all_goals go_wp2
       all_goals go_ret
       all_goals exact⟨X5 m.out,v.drew⟩
      have q2':=Mc I
      go_wp2_with fail
      go_region
      all_goals go_wp2
      all_goals go_ret
      all_goals exact⟨X5 m.out,v.drew⟩
     have q1':(n1==n2)=false:=by simpa using J
     go_wp2_with fail
     go_region
     all_goals go_wp2
     all_goals go_ret
     all_goals exact⟨X5 m.out,v.drew⟩
    obtain rfl:k=a.length:=O0;have HY:Hid (R3.mk g a f=R3.mk g c f):=by
     show R3.mk _ _ _=R3.mk _ _ _;rw[qG t.out hd.out]
    go_wp2;go_ret;exact⟨J_ HY,v⟩
   have m:Hid (¬R3.mk g a f=R3.mk q c p):=λh=>l (by injection h with _ h2;rw[h2]);subst r;subst ho;have hn1:¬(a.length:Int)=c.length:=O0
   go_in
   go_wp2_with fail
   rw[<- s.out];go_ret;exact⟨X5 m,o⟩
  have m:Hid (¬R3.mk g a f=R3.mk q c p):=λh=>ho (by injection h);subst r;have ho1:=Mc ho
  go_in
  go_wp2;go_ret;rw[<- s.out];exact⟨X5 m,o⟩
 have m:Hid (¬R3.mk g a f=R3.mk q c p):=λh=>r (by injection h);have hk1:=Mc r
 go_in
 go_wp2;go_ret;rw[<- s.out];exact⟨X5 m,o⟩
theorem a4D(c:Int)(w:World)(hc:c=0\/c=1\/c=2\/c=3\/c=4\/c=5\/c=7):
 Calls prog 293 #[.int .i64 c] w λe w'=>e=.returned (.string (I4 [UInt8.ofNat (48+c).toNat]))/\w'=w:=by
 rcases hc with rfl|rfl|rfl|rfl|rfl|rfl|rfl
 all_goals
  go_in
  go_wp2;go_ret;exact⟨rfl,rfl⟩
theorem a4k(c:Int)(w:World)(hc:c=0\/c=1\/c=2\/c=3\/c=4\/c=5\/c=7):
 Calls prog 256 #[.int .i64 c,.int .i64 10] w λe w'=>e=.returned (.string (I4 [UInt8.ofNat (48+c).toNat]))/\w'=w:=by
 have h1:0<=c:=O0;have h2:c<100:=O0;have H:=a4D c w hc;clear hc
 go_in
 go_wp2_with(go_at_call 293;refine H.mono ?_;rintro e w'⟨rfl,rfl⟩)
 go_ret;exact⟨rfl,rfl⟩
theorem c213(c:Int)(w:World)(hc:c=0\/c=1\/c=2\/c=3\/c=4\/c=5\/c=7):
 Calls prog 213 #[.int .i64 c] w λe w'=>e=.returned (.string (I4 [UInt8.ofNat (48+c).toNat]))/\w'=w:=by
 have H:=a4k c w hc
 go_in
 go_wp2_with(go_at_call 256;refine H.mono ?_;rintro e w'⟨rfl,rfl⟩)
 go_ret;exact⟨rfl,rfl⟩
theorem c162(c:Int)(w:World)(hc:c=0\/c=1\/c=2\/c=3\/c=4\/c=5\/c=7):
 Calls prog 162 #[.int .i64 c] w λe w'=>e=.returned (.string (I4 [UInt8.ofNat (48+c).toNat]))/\w'=w:=by
 have H:=c213 c w hc
 go_in
 go_wp2_with(go_at_call 213;refine H.mono ?_;rintro e w'⟨rfl,rfl⟩)
 go_ret;exact⟨rfl,rfl⟩
theorem NP(c:Int)(s:BY)(w:World)(d:s.size<=1048700):
 Calls prog 274 #[.agg #[.int .i64 c,.string s]] w λe w'=>e=.returned (.string (I4 (g_ c s.data.toList)))/\Bw w w':=by
 go_in
 go_wp2_with fail
 refine(c203 _ _ _ d).mono ?_;rintro e w1⟨rfl,a⟩;have b:=((G5 w.heap.size w).alloc X7 (.cells #[vI c,vS s] 72)).trans (a.mono E5);have g10:w1.cell? (aW w 0)=some (vI c):=by rw[a.cell E5];simp
 have g11:w1.cell? (aW w 1)=some (vS s):=by rw[a.cell E5];simp
 cases hv:vr c s.data.toList
 ·have hF:=TK hv;go_wp2;go_ret;exact⟨hF,b⟩
 have hc:=Xh hv;have hF:=U0 (MH hv);have hz:(I4 [UInt8.ofNat (48+c).toNat]).size=1:=rfl;clear hv
 go_wp2_with fail
 go_region_with(go_at_call 162;refine(c162 _ _ hc).mono ?_;rintro e w'⟨rfl,rfl⟩)
 all_goals go_wp2
 all_goals go_ret
 all_goals exact⟨by rw[hF.out];rfl,by first|exact b|exact b.drew⟩
theorem a3T(b:Bool)(w:World):Calls prog 220 #[.bool b] w λe w'=>e=.returned (.string (if b then⟨#[49]⟩ else⟨#[48]⟩))/\Bw w w':=by
 cases b
 ·go_in
  go_wp2;go_ret;exact⟨rfl,G5 _ _⟩
 go_in
 go_wp2;go_ret;exact⟨rfl,G5 _ _⟩
def uf(m:M3):BY:=m.tl++⟨#[32]⟩++m.ar
theorem a1Y(m:M3)(w:World)(hm:m.le 1048600):Calls prog 275 #[.agg #[.string m.nm,.string m.tl,.string m.ar]] w λe w'=>e=.returned (.string (uf m))/\Bw w w':=by
 have h1:=hm.2.1;have h2:=hm.2.2;have hB:∀o,Bw w (w.alloc o):=λo=>Y6
 go_in
 go_wp2;go_ret;exact⟨rfl,hB _⟩
def Xq(x:L4):BY:=if x.has then(if x.cd=0 then⟨#[49]⟩ else⟨#[48]⟩) else I4 (g_ x.cd x.tx.data.toList)
theorem a3C(x:L4)(w:World)(hx:x.tx.size<=1048700):Calls prog 304 #[.agg #[.bool x.has,.string x.nm,.int .i64 x.cd,.string x.tx]] w λe w'=>e=.returned (.string (Xq x))/\Bw w w':=by
 obtain⟨h,nm,cd,tx⟩:=x;simp only at hx ⊢;have hB:∀o,Bw w (w.alloc o):=λo=>Y6;cases h
 ·go_in
  go_wp2_with fail
  refine(NP cd tx _ hx).mono ?_;rintro e w1⟨rfl,a⟩;have c:=(hB (.cells #[.bool false,vS nm,vI cd,vS tx] 138)).trans (a.mono E5);go_wp2;go_ret;exact⟨rfl,c⟩
 by_cases h0:cd=0
 ·subst h0
  go_in
  go_wp2;go_ret;exact⟨rfl,hB _⟩
 have h1:(cd==0)=false:=by simpa using h0
 have b:Hid (Xq ⟨true,nm,cd,tx⟩=⟨#[48]⟩):=by show Xq _=_;unfold Xq;simp[h0]
 go_in
 go_wp2;go_ret;exact⟨by rw[b.out];rfl,hB _⟩
theorem a4P(a c:List G3)(A z:OA)(N L:Nat)(w:World)(hl:a.length<=1048576)(hl':c.length<=1048576)(y:R_ w A a)(x:R_ w z c):
 Calls prog 242 #[.slice A a.length N,.slice z c.length L] w λe w'=>Rb (a=c) e/\Bw w w':=by
 by_cases f:a.length=c.length
 ·rw[<- f];have m:=U0 f;clear f;obtain⟨b,off,hc⟩:=Ai y;obtain⟨b',off',v⟩:=Ai x;have R:=U0 hc;have Q:=U0 v;clear hc v y x
  go_in
  go_wp2;go_loopw[13] (λi wr=>∃(k:Nat),k<=a.length/\i=.int .i64 k/\Hid (∀j,j<k->a.getD j zh=c.getD j zh)/\Below w.heap.size w wr) (λi _=>a.length-(RowKit.intOf i).toNat);exact⟨0,J4 _,rfl,λj h=>absurd h (y9 _),G5 _ _⟩;obtain⟨k,hk2,rfl,hd,d⟩:=hrel;have q:=d;by_cases g:k<a.length
  ·obtain⟨ha,s,p⟩:=Jd R.out g;rcases Q.out with F|⟨H,r,o⟩
   ·have f:=m.out;rw[F]at f;rw[f]at g;exact absurd g (y9 _)
   subst ha;subst H;have g0:=(d.cell (by exact s)).trans (p k g).1;have g1:=(d.cell (by exact s)).trans (p k g).2.1;have g2:=(d.cell (by exact s)).trans (p k g).2.2;have K:=(d.cell (by exact r)).trans (o k (by have:=m.out;omega)).1;have J:=(d.cell (by exact r)).trans (o k (by have:=m.out;omega)).2.1;have I:=(d.cell (by exact r)).trans (o k (by have:=m.out;omega)).2.2;clear p o;by_cases l:a.getD k zh=c.getD k zh
   ·have P:Hid (∀j,j<k+1->a.getD j zh=c.getD j zh):=λj hj=>by
     rcases D8 j k with h|h
     ·exact hd.out j h
     obtain rfl:j=k:=O0;exact l
    rw[<- l]at K J I;generalize a.getD k zh=X at*;clear l hd
    go_wp2_with fail
    go_region
    all_goals go_wp2
    all_goals go_roundw
    all_goals first
     | exact⟨k+1,O0,by go_num,P,d.drew⟩
     | (exact Z9)
   have n:Hid (¬a=c):=λh=>l (by rw[h]);generalize a.getD k zh=X at*;generalize c.getD k zh=Y at*;obtain⟨n1,B,D⟩:=X;obtain⟨n2,t2,C⟩:=Y;by_cases u:n1=n2
   ·subst u;by_cases t:B=t2
    ·subst t;have E:¬D=C:=λh=>l (by rw[h]);have q3':=Mc E
     go_wp2_with fail
     go_region
     all_goals go_wp2
     all_goals go_ret
     all_goals exact⟨X5 n.out,q.drew⟩
    have q2':=Mc t
    go_wp2_with fail
    go_region
    all_goals go_wp2
    all_goals go_ret
    all_goals exact⟨X5 n.out,q.drew⟩
   have q1':(n1==n2)=false:=by simpa using u
   go_wp2_with fail
   go_region
   all_goals go_wp2
   all_goals go_ret
   all_goals exact⟨X5 n.out,q.drew⟩
  obtain rfl:k=a.length:=O0;have O:Hid (a=c):=by
   exact qG m hd
  go_wp2;go_ret;exact⟨J_ O,q⟩
 have n:Hid (¬a=c):=λh=>f (by rw[h]);have hn1:¬(a.length:Int)=c.length:=O0
 go_in
 go_wp2;go_ret;exact⟨X5 n,G5 _ _⟩
theorem U6.uZ(h:U6 u B old)(hl:old.length=vs.length):U6 (Go.Proofs.YtkccjgajimjjdaaGreatDoor.fill u B 0 vs) B vs:=by
 have k:=U6.fill vs [] old [] 0 (by simpa using h) hl rfl;simpa using k
theorem aO(k:Nat)(a:k≠B)(vs:List Value):∀{u:World}(j:Nat),(fill u B j vs).heap[k]?=u.heap[k]?:=by
 induction vs with
 | nil=>intro u j;rfl
 | cons v vs ih=>
  intro u j;exact(ih (j+1)).trans (Ox _ _ _ _ a)
theorem oU(hB:U6 u B old)(hl:old.length=vs.length):∀i,i<vs.length->(u.cell? ⟨B,0+i,none⟩).isSome=true:=λi hi=>by
 rw[o9,hB i _ (L9 O0)];rfl
theorem jd{K:Act->World->Prop}{Q:Exit->Act->World->Prop}{E:Prop}(d:o.guard=none)(ty:TypeId)(x y:Operand)(ho:o.op=.store ty x y)
 (B j:Nat) (hx:a.eval x=.pointer (some ⟨B,j,none⟩)) (vs:List Value) (b:a.eval y=.agg vs.toArray) (hc:∀i,i<vs.length->(w.cell? ⟨B,j+i,none⟩).isSome=true) (hf:H9 w B) (h1:∀v∈vs,v.oneCell'=true)
 (c:(P.info? ty).map (·.size)=some vs.length) (e:o.dst=none) (h:K a (fill w B j vs)):
 if Region.wanted o (yielded ops a.tmps)=true then Oper.wp P o a w K Q else E:=by
 have hw:Region.wanted o (yielded ops a.tmps)=true:=by simp[Region.wanted,d]
 rw[L8 hw];unfold Oper.wp execOp;simp only[ho,hx,b,Instr.storeAt,Instr.sureAddr,Sem.run_bind,Zp,Am,Nh w B j ty vs hc hf h1 c]
 first
  | exact h
  | (simp only[Oper.upon];exact h)
  | (simp only[Oper.upon,e];exact h)
theorem a3M(x:L4)(W:Int)(H:Nat)(w:World)(hx:x.tx.size<=1048600)(hH:H<w.heap.size)(J:w.cell? ⟨H,0,none⟩=some (.int .i64 W))(I:(Xq x).size<=1048700):
 Calls prog 276 #[.pointer (some ⟨H,0,none⟩),.agg #[.bool x.has,.string x.nm,.int .i64 x.cd,.string x.tx]] w λe w'=>e=.returned (.agg #[.bool x.has,.string x.nm,.string (G7 (Xq x) W)])/\Bw w w':=by
 replace hx:x.tx.size<=1048700:=O0
 have p:Bw w ((w.alloc (.cells #[.bool x.has,vS x.nm,vI x.cd,vS x.tx] 138)).alloc (.cells #[.bool false,vE,vE] 213)):=Y6.alloc E5 _;have hz:((w.alloc (.cells #[.bool x.has,vS x.nm,vI x.cd,vS x.tx] 138)).alloc (.cells #[.bool false,vE,vE] 213)).heap.size=w.heap.size+2:=E5;have g:=(p.cell (by exact hH)).trans J;have a:=U0 ((a_ w [.bool x.has,vS x.nm,vI x.cd,vS x.tx] 138).below ((G5 _ _).alloc X7 (.cells #[.bool false,vE,vE] 213)) E5);have U:Hid (U6 ((w.alloc (.cells #[.bool x.has,vS x.nm,vI x.cd,vS x.tx] 138)).alloc (.cells #[.bool false,vE,vE] 213)) (w.heap.size+1) [.bool false,vE,vE]):=λj x hx=>by simp[go_sem,hx]
 have X:Hid (H9 ((w.alloc (.cells #[.bool x.has,vS x.nm,vI x.cd,vS x.tx] 138)).alloc (.cells #[.bool false,vE,vE] 213)) (w.heap.size+1)):=λj=>by simp[go_sem]
 go_in
 go_wp2_with fail
 generalize ((w.alloc (.cells #[.bool x.has,vS x.nm,vI x.cd,vS x.tx] 138)).alloc (.cells #[.bool false,vE,vE] 213))=V at*;have d:Bw V V.drew:=(G5 _ _).drew;have D:=(a.out.below d O0) 0 _ rfl;have B:=(a.out.below d O0) 1 _ rfl;have z:=(a.out.below d O0) 2 _ rfl;have t:=(a.out.below d O0) 3 _ rfl;have r:=(d.cell (by exact(show H<V.heap.size by omega))).trans g;refine wp_region_held_drew (S:=(λu=>u.cell? (aW w 0)=some (.bool x.has)/\u.cell? (aW w 1)=some (vS x.nm)/\u.cell? (aW w 2)=some (vI x.cd)/\u.cell? (aW w 3)=some (vS x.tx)/\u.cell? (aA H 0)=some (vI W))) Y1 ?_ λhHeld=>?_
 ·exact⟨D,B,z,t,r⟩
 refine p_ 0 ?_;refine p_ 1 ?_;refine p_ 2 ?_;refine p_ 3 ?_;refine p_ 4 ?_;refine p_ 6 ?_;refine p_ 7 ?_;refine p_ 8 ?_;refine p_ 9 ?_;refine rq 5 λK b=>?_;go_simp;refine(a3C x V.drew hx).mono ?_;rintro e w1⟨rfl,o⟩;have h1:=J5 d o;clear o;have F:=(a.out.below h1 O0) 0 _ rfl;have C:=(a.out.below h1 O0) 1 _ rfl;have A:=(a.out.below h1 O0) 2 _ rfl;have y:=(a.out.below h1 O0) 3 _ rfl;have s:=(h1.cell (by exact(show H<V.heap.size by omega))).trans g;go_simp;clear hHeld;refine A8 b ?_ λhHeld=>?_
 ·exact⟨F,C,A,y,s⟩
 clear b K;refine rq 10 λK b=>?_;go_simp;refine(zJ (Xq x) W w1 I).mono ?_;rintro e f⟨rfl,n⟩;have h2:=J5 h1 n;clear n;have m:=(a.out.below h2 O0) 0 _ rfl;have l:=(a.out.below h2 O0) 1 _ rfl;have k:=(a.out.below h2 O0) 2 _ rfl;have i:=(a.out.below h2 O0) 3 _ rfl;have h:=(h2.cell (by exact(show H<V.heap.size by omega))).trans g;go_simp;clear hHeld;refine A8 b ?_ λhHeld=>?_
 ·exact⟨m,l,k,i,h⟩
 clear b K;refine sq ?_;refine rq 12 λK b=>?_;have q:=U0 (U.out.below h2 O0);have F2:=U0 (X.out.below h2 O0);refine jd rfl 213 (.tmp 4) (.tmp 16) rfl (w.heap.size+1) 0 rfl [.bool x.has,vS x.nm,vS (G7 (Xq x) W)] rfl (oU q.out rfl) F2.out (by simp[Value.oneCell']) Y1 rfl ?_;clear hHeld;have c:Below (w.heap.size+1) f (fill f (w.heap.size+1) 0 [.bool x.has,vS x.nm,vS (G7 (Xq x) W)]):=Ua X7 _ _ (G5 _ _);have R:=U0 (q.out.uZ (vs:=[.bool x.has,vS x.nm,vS (G7 (Xq x) W)]) rfl);have hs2:=h2.size;have Q:=(c.cell (by exact(show w.heap.size<_ by omega))).trans m;have O:=(c.cell (by exact(show w.heap.size<_ by omega))).trans l;have c2:=(c.cell (by exact(show w.heap.size<_ by omega))).trans k;have c3:=(c.cell (by exact(show w.heap.size<_ by omega))).trans i;have N:=(c.cell (by exact(show H<_ by omega))).trans h;have L:=(J5 p h2).trans (c.mono O0);generalize fill f (w.heap.size+1) 0 [.bool x.has,vS x.nm,vS (G7 (Xq x) W)]=E at*;refine b.out _ _ ⟨Q,O,c2,c3,N⟩ λhHeld=>?_;clear b K;refine wdn ?_
 go_wp2_with fail
 refine Q7 (v:=.agg ([.bool x.has,vS x.nm,vS (G7 (Xq x) W)]:List Value).toArray) (J7 (P:=prog) (ty:=213) rfl _ E (w.heap.size+1) [.bool x.has,vS x.nm,vS (G7 (Xq x) W)] _ rfl R.out underlying213 rfl Y1) rfl ⟨rfl,L⟩
theorem c196(x y:R3)(g f:OA)(j i:Nat)(w:World)(hl:x.gs.length<=1048576)(r:y.gs.length<=1048576)(t:R_ w g x.gs)(s:R_ w f y.gs):
 Calls prog 196 #[.agg #[.string x.key,.slice g x.gs.length j,.string x.out],.agg #[.string y.key,.slice f y.gs.length i,.string y.out]] w λe w'=>Rb (x=y) e/\Bw w w':=by
 obtain⟨a,d,b⟩:=x;obtain⟨n,c,k⟩:=y;simp only at hl r t s ⊢;have hB:∀o p,Bw w ((w.alloc o).alloc p):=λo p=>Y6.alloc E5 _;by_cases l:a=n
 ·subst l;by_cases ho:b=k
  ·subst ho;have C:=U0 (I9 t (hB (.cells #[vS a,vL g d.length j,vS b] 162) (.cells #[vS a,vL f c.length i,vS b] 162)));have B:=U0 (I9 s (hB (.cells #[vS a,vL g d.length j,vS b] 162) (.cells #[vS a,vL f c.length i,vS b] 162)));have A:=hB (.cells #[vS a,vL g d.length j,vS b] 162) (.cells #[vS a,vL f c.length i,vS b] 162)
   go_in
   go_wp2_with fail
   refine(a4P d c g f j i _ hl r C B).mono ?_;rintro e w1⟨hR,v⟩;have z:=J5 A v;obtain⟨q,rfl,u⟩:=hR;have D:Hid (Rb (R3.mk a d b=R3.mk a c b) (.returned (.bool q))):=⟨q,rfl,u.trans ⟨λh=>by rw[h],λh=>by injection h⟩⟩;go_wp2;go_ret;exact⟨D,z⟩
  have m:Hid (¬R3.mk a d b=R3.mk a c k):=λh=>ho (by injection h);have ho1:=Mc ho
  go_in
  go_wp2;go_ret;exact⟨X5 m,hB _ _⟩
 have m:Hid (¬R3.mk a d b=R3.mk n c k):=λh=>l (by injection h);have hk1:=Mc l
 go_in
 go_wp2;go_ret;exact⟨X5 m,hB _ _⟩
theorem TA{rest:List Oper}{Q:Exit->Act->World->Prop}
 (r:o.guard=none) (s x:Operand) (t:TypeId) (p:o.op=Op.call { callee:=Callee.builtin Builtin.append,args:=#[s,x],argTypes:=#[t,t] })
 (base:Nat) (e:TypeId) (i:TypeInfo) (z:Value) (size bytes:Nat) (h1:P.underlying t=some (.slice e)) (h2:P.info? e=some i) (H:i.zero=some z) (F:i.size=size) (E:i.bytes=bytes) (D:z.cells.size=size) (C:0<size)
 (v:Value) (n:Nat) (xs:List Value) (h:a.eval s=v) (l:w.ownsRow base e size v n xs)
 (d:Addr) (m c:Nat) (b:List Value) (hx:a.eval x=.slice (some d) m c) (q:b.length=m*size) (hc:∀j u,b[j]?=some u->w.cell? (d.add j)=some u) (I:∀u∈b,u.oneCell'=true)
 (L:n+m<=maxLen) (J:(n+m)*bytes<=140737488355328) (y:base<=w.heap.size)
 (B:∀v' w',w'.ownsRow base e size v' (n+m) (xs++b)->w.grownBy w' v.ownBlock->wpList P ops Q rest (a.put o.dst v') w'):wpList P ops Q (o::rest) a w:=by
 refine Qv r λK A=>?_;obtain⟨v',w',k,g,f,_⟩:=run_append_own (P:=P) w base t o.type e i z size bytes h1 h2 H F E D C v n xs l d m c b q hc I L J y;unfold Oper.wp;simp[execOp,p,resolve,invoke,builtin,h,hx,k,Result.andThen];exact A _ _ (B v' w' g f)
theorem Z4(h:u.ownsRow base e size v n xs){k:Nat}(a:v.ownBlock=some k):base<=k:=by
 rcases h.2 with⟨hv,_⟩|⟨g,cap,cur,hv,hg,hh,_⟩
 ·subst hv;simp[Value.ownBlock]at a
 subst hv;simp[Value.ownBlock]at a;omega
theorem V9(h:u.ownsRow base e size v n xs):∃a c,v=.slice a n c:=by
 rcases h.2 with⟨hv,h0⟩|⟨g,cap,cur,hv,hg,hh,_⟩
 ·exact⟨none,0,by rw[hv,h0]⟩
 exact⟨_,_,hv⟩
def F_:List L4->List (Int×ByteArray)
 | []=>[]
 | x::r=>if x.has then F_ r else(x.cd,x.tx)::F_ r
theorem uw(l:List L4)(x:L4):F_ (l++[x])=F_ l++(if x.has then [] else [(x.cd,x.tx)]):=by
 induction l with
 | nil=>cases h:x.has<;>simp[F_,h]
 | cons y r ih=>cases h:y.has<;>simp[F_,h,ih]
theorem KA(l:List L4):(F_ l).length<=l.length:=by
 induction l with
 | nil=>exact J8 _
 | cons y r ih=>cases h:y.has<;>simp[F_,h]<;>omega
def iC(rs:List (Int×ByteArray)):List Value:=rs.flatMap λr=>[.int .i64 r.1,.string r.2]
theorem dD(l:List (Int×ByteArray))(c:Int)(s:BY):iC (l++[(c,s)])=iC l++[.int .i64 c,.string s]:=by simp[iC]
theorem jw{l:List L4}{k:Nat}(h:k<l.length):l.take (k+1)=l.take k++[l.getD k M_]:=by
 rw[Yr,L9 h];simp[List.getD,L9 h]
theorem ZT:(prog.info? 72).map (λi=>(i.zero,i.size,i.bytes))=some (some (.agg #[.int .i64 0,.string ⟨#[]⟩]),2,24):=Y1
theorem info_parts'{e:TypeId}{z:Value}{m:Nat}(h:(P.info? e).map (λi=>(i.zero,i.size,i.bytes))=some (some z,n,m)):∃i,P.info? e=some i/\i.zero=some z/\i.size=n/\i.bytes=m:=by
 cases hq:P.info? e with
 | none=>simp[hq]at h
 | some i=>
  simp only[hq,Iw,iw,KJ]at h;exact⟨i,rfl,h.1,h.2.1,h.2.2⟩
theorem a1C(ls:List L4)(a:OA)(cap:Nat)(w:World)(hl:ls.length<=1048576)(s:S9 w a ls):
 Calls prog 273 #[.slice a ls.length cap] w λe w'=>(∃v,e=.returned v/\w'.ownsRow w.heap.size 72 2 v (F_ ls).length (iC (F_ ls)))/\Bw w w':=by
 obtain⟨A,F,D,C,B⟩:=info_parts' ZT;obtain⟨b,off,hc⟩:=Yg s;have O:=U0 hc;clear hc s
 go_in
 go_wp2;go_loopw[3,8] (λv i wr=>∃(k:Nat),k<=ls.length/\i=.int .i64 k/\Hid (wr.ownsRow w.heap.size 72 2 v (F_ (ls.take k)).length (iC (F_ (ls.take k))))/\Below w.heap.size w wr) (λ_ i _=>ls.length-(RowKit.intOf i).toNat);exact⟨0,J4 _,rfl,Y_ _ _ _ _,G5 _ _⟩;obtain⟨k,hk,rfl,g,c⟩:=hrel;by_cases d:k<ls.length
 ·obtain⟨ha,l,f⟩:=Jd O.out d;subst ha;have g0:=(c.cell (by exact l)).trans (f k d).1;have g1:=(c.cell (by exact l)).trans (f k d).2.1;have g2:=(c.cell (by exact l)).trans (f k d).2.2.1;have g3:=(c.cell (by exact l)).trans (f k d).2.2.2;have t:=U0 (jw d);have hln:(F_ (ls.take k)).length<=1048576:=I8 (KA _) Q8;clear f;generalize hx:ls.getD k M_=x at*;clear hx;obtain⟨h,nm,cd,tx⟩:=x;simp only at g0 g1 g2 g3;have hz:=c.size;cases h
  ·have o:Hid (F_ (ls.take (k+1))=F_ (ls.take k)++[(cd,tx)]):=by
    show F_ _=_;rw[t.out,uw];simp
   have I:Bw w ((wr.alloc (.cells #[.bool false,.string nm,.int .i64 cd,.string tx] 138)).alloc (.cells #[.int .i64 cd,.string tx] 72)):=(c.alloc hz _).alloc Q8 _;have p:=U0 (QI (QI g.out (.cells #[.bool false,.string nm,.int .i64 cd,.string tx] 138)) (.cells #[.int .i64 cd,.string tx] 72));have hzA:((wr.alloc (.cells #[.bool false,.string nm,.int .i64 cd,.string tx] 138)).alloc (.cells #[.int .i64 cd,.string tx] 72)).heap.size=wr.heap.size+2:=E5;have y:Hid (∀j u,([.int .i64 cd,.string tx]:List Value)[j]?=some u->((wr.alloc (.cells #[.bool false,.string nm,.int .i64 cd,.string tx] 138)).alloc (.cells #[.int .i64 cd,.string tx] 72)).cell? ((aA (wr.heap.size+1) 0).add j)=some u):=λj u m=>by
    rw[Bl,o9]
    match j with
    | 0=>obtain rfl:=I_ m;simp[go_sem]
    | 1=>obtain rfl:=I_ m;simp[go_sem]
    | j+2=>simp at m
   clear g
   go_wp2_with(refine TA rfl (.tmp 15) (.tmp 18) 351 rfl w.heap.size 72 A (.agg #[.int .i64 0,.string ⟨#[]⟩]) 2 24 underlying351 F D C B rfl Z5 _ _ _ rfl p.out ⟨wr.heap.size+1,0,none⟩ 1 1 [.int .i64 cd,.string tx] rfl rfl y.out (by simp[Value.oneCell']) (by unfold maxLen;omega) O0 O0 ?_;intro v2 z n r;obtain⟨a2,c2,rfl⟩:=V9 n;have L:=U0 n;have H:Bw w z:=I.grown r O0 (λq E=>Z4 p.out E);clear n r p y)
   go_roundw;exact⟨k+1,O0,by go_num,by rw[o.out,dD,P9];exact L.out,H⟩;exact Z9
  have o:Hid (F_ (ls.take (k+1))=F_ (ls.take k)):=by
   show F_ _=_;rw[t.out,uw];simp
  have J:Bw w (wr.alloc (.cells #[.bool true,.string nm,.int .i64 cd,.string tx] 138)):=c.alloc hz _;have P:=U0 (QI g.out (.cells #[.bool true,.string nm,.int .i64 cd,.string tx] 138));go_wp2;go_roundw;exact⟨k+1,O0,by go_num,by rw[o.out];exact P.out,J⟩;exact Z9
 obtain rfl:k=ls.length:=O0;obtain⟨K,c3,rfl⟩:=V9 g.out;have N:Hid (wr.ownsRow w.heap.size 72 2 (.slice K (F_ (List.take ls.length ls)).length c3) (F_ ls).length (iC (F_ ls))):=by show World.ownsRow _ _ _ _ _ _ _;have h:=g.out;rw[Ns]at h ⊢;exact h
 go_wp2;go_ret;exact⟨⟨_,rfl,N.out⟩,c⟩
