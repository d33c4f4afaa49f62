import Derived.Test.YtkccjgajimjjdaaGreatDoorvG
import Derived.Laws.CopyOwn
set_option linter.unusedVariables false
set_option maxHeartbeats 8000000
set_option maxRecDepth 100000
namespace Go.Proofs.YtkccjgajimjjdaaGreatDoor
open Proofs.Tryz Go.RowKit
theorem m43(A B:Nat)(v:Value)(n:Nat)(K:Int)(w:World)(h1:1<=K)(h2:K<=90000000000000)(hn:n<=1048576)(ho:Rw A B w 3 1 v n):
 Calls prog 43 #[v,.int .i64 K] w λe w'=>(e=.returned (.int .i64 (K+(n:Int)))/\Mf w' 3 [mI] K v n)/\Md A B [3] w w':=by
 obtain⟨a,cp,rfl,h⟩:=ho;have m:Hid (Pz A B w a 3 [mI] K 0 n):=LC h
 go_in
 go_wp2;go_loopw[1,5] (λq i wr=>∃k:Nat,k<=n/\i=.int .i64 k/\q=.int .i64 (K+(k:Int))/\Hid (Md A B [3] w wr)/\Hid (Pz A B wr a 3 [mI] K k n)) (λ_ i _=>n-(RowKit.intOf i).toNat);exact⟨0,J4 _,rfl,E5,Md.refl,m⟩;obtain⟨k,hk,rfl,rfl,c,b⟩:=hrel;by_cases j:k<n;rotate_left
 ·obtain rfl:k=n:=O0;go_wp2;go_ret;exact⟨⟨rfl,b.out.fin⟩,c⟩
 obtain⟨g,rfl,d,f⟩:=b.out.pos j;have b:Hid (Pt wr g 3 [mI] K k n):=by have h:=f;rwa[show k*[mI].length+0=k from Lm k,show n*[mI].length=n from Lm n]at h
 go_wp2_with(refine ql rfl 3 _ _ rfl (p:=k) rfl (v:=mI (K+(k:Int))) rfl Y1 b.out O0 pk1 c.out d (by simp) rfl ?_;intro u l c)
 go_roundw;exact⟨k+1,O0,by go_num,by go_num,c,Pt.next (n:=n) (by rw[show n*[mI].length=n from Lm n];exact l.out) d⟩;exact Z9
theorem m44(A B:Nat)(v:Value)(n:Nat)(K:Int)(w:World)(h1:1<=K)(h2:K<=90000000000000)(hn:n<=1048576)(ho:Rw A B w 9 1 v n):
 Calls prog 44 #[v,.int .i64 K] w λe w'=>(e=.returned (.int .i64 (K+(n:Int)))/\Mf w' 9 [mT] K v n)/\Md A B [9] w w':=by
 obtain⟨a,cp,rfl,h⟩:=ho;have o:Hid (Pz A B w a 9 [mT] K 0 n):=LC h
 go_in
 go_wp2;go_loopw[1,5] (λq i wr=>∃k:Nat,k<=n/\i=.int .i64 k/\q=.int .i64 (K+(k:Int))/\Hid (Md A B [9] w wr)/\Hid (Pz A B wr a 9 [mT] K k n)) (λ_ i _=>n-(RowKit.intOf i).toNat);exact⟨0,J4 _,rfl,E5,Md.refl,o⟩;obtain⟨k,hk,rfl,rfl,c,b⟩:=hrel;by_cases l:k<n;rotate_left
 ·obtain rfl:k=n:=O0;go_wp2;go_ret;exact⟨⟨rfl,b.out.fin⟩,c⟩
 obtain⟨g,rfl,d,j⟩:=b.out.pos l;have b:Hid (Pt wr g 9 [mT] K k n):=by have h:=j;rwa[show k*[mT].length+0=k from Lm k,show n*[mT].length=n from Lm n]at h
 go_wp2_with fail
 refine(zi _ _ O0 O0).mono ?_;rintro e w0⟨rfl,f⟩
 replace c:=U0 (c.out.trans (Md.of f))
 replace b:=U0 (b.out.below f)
 go_wp2_with(refine ql rfl 9 _ _ rfl (p:=k) rfl (v:=mT (K+(k:Int))) rfl Y1 b.out O0 pk1 c.out d (by simp) rfl ?_;intro u m c)
 go_roundw;exact⟨k+1,O0,by go_num,by go_num,c,Pt.next (n:=n) (by rw[show n*[mT].length=n from Lm n];exact m.out) d⟩;exact Z9
theorem a3X(A B:Nat)(v:Value)(n:Nat)(K:Int)(w:World)(h1:1<=K)(h2:K<=90000000000000)(hn:n<=1048576)(ho:Rw A B w 67 2 v n):
 Calls prog 106 #[v,.int .i64 K] w λe w'=>(e=.returned (.int .i64 (K+2*(n:Int)))/\Mf w' 67 [mT,mT] K v n)/\Md A B [67] w w':=by
 obtain⟨a,cp,rfl,h⟩:=ho;have r:Hid (Pz A B w a 67 [mT,mT] K 0 n):=LC h
 go_in
 go_wp2;go_loopw[1,5] (λq i wr=>∃k:Nat,k<=n/\i=.int .i64 k/\q=.int .i64 (K+2*(k:Int))/\Hid (Md A B [67] w wr)/\Hid (Pz A B wr a 67 [mT,mT] K k n)) (λ_ i _=>n-(RowKit.intOf i).toNat);exact⟨0,J4 _,rfl,E5,Md.refl,r⟩;obtain⟨k,hk,rfl,rfl,b,c⟩:=hrel;by_cases m:k<n;rotate_left
 ·obtain rfl:k=n:=O0;go_wp2;go_ret;exact⟨⟨rfl,c.out.fin⟩,b⟩
 obtain⟨g,rfl,f,l⟩:=c.out.pos m;have c:Hid (Pt wr g 67 [mT,mT] K (k*2) (n*2)):=l
 go_wp2_with fail
 refine(zi _ _ O0 O0).mono ?_;rintro e w0⟨rfl,d⟩
 replace b:=U0 (b.out.trans (Md.of d))
 replace c:=U0 (c.out.below d)
 go_wp2_with(refine ql rfl 9 _ _ rfl (p:=k*2) rfl (v:=mT (K+2*(k:Int))) rfl Y1 c.out O0 (pk 0) b.out f (by simp) rfl ?_;intro u j b)
 refine(zi _ _ O0 O0).mono ?_;rintro e w1⟨rfl,d⟩
 replace b:=U0 (b.out.trans (Md.of d))
 replace j:=U0 (j.out.below d)
 go_wp2_with(refine ql rfl 9 _ _ rfl (p:=k*2+1) rfl (v:=mT (K+2*(k:Int)+1)) rfl Y1 j.out O0 (pk 1) b.out f (by simp) rfl ?_;intro u o b)
 go_roundw;exact⟨k+1,O0,by go_num,by go_num,b,o.out.next f⟩;exact Z9
theorem m46(A B:Nat)(v:Value)(n:Nat)(K:Int)(w:World)(h1:1<=K)(h2:K<=90000000000000)(hn:n<=1048576)(ho:Rw A B w 127 3 v n):
 Calls prog 46 #[v,.int .i64 K] w λe w'=>(e=.returned (.int .i64 (K+3*(n:Int)))/\Mf w' 127 [mT,mI,mI] K v n)/\Md A B [127] w w':=by
 obtain⟨a,cp,rfl,h⟩:=ho;have s:Hid (Pz A B w a 127 [mT,mI,mI] K 0 n):=LC h
 go_in
 go_wp2;go_loopw[1,5] (λq i wr=>∃k:Nat,k<=n/\i=.int .i64 k/\q=.int .i64 (K+3*(k:Int))/\Hid (Md A B [127] w wr)/\Hid (Pz A B wr a 127 [mT,mI,mI] K k n)) (λ_ i _=>n-(RowKit.intOf i).toNat);exact⟨0,J4 _,rfl,E5,Md.refl,s⟩;obtain⟨k,hk,rfl,rfl,b,c⟩:=hrel;by_cases l:k<n;rotate_left
 ·obtain rfl:k=n:=O0;go_wp2;go_ret;exact⟨⟨rfl,c.out.fin⟩,b⟩
 obtain⟨g,rfl,d,j⟩:=c.out.pos l;have c:Hid (Pt wr g 127 [mT,mI,mI] K (k*3) (n*3)):=j
 go_wp2_with fail
 refine(zi _ _ O0 O0).mono ?_;rintro e w0⟨rfl,f⟩
 replace b:=U0 (b.out.trans (Md.of f))
 replace c:=U0 (c.out.below f)
 go_wp2_with(first|(refine ql rfl 9 _ _ rfl (p:=k*3) rfl (v:=mT (K+3*(k:Int))) rfl Y1 c.out O0 (pk 0) b.out d (by simp) rfl ?_;intro u r b)|(refine ql rfl 3 _ _ rfl (p:=k*3+1) rfl (v:=mI (K+3*(k:Int)+1)) rfl Y1 r.out O0 (pk 1) b.out d (by simp) rfl ?_;intro u o b)|(refine ql rfl 3 _ _ rfl (p:=k*3+2) rfl (v:=mI (K+3*(k:Int)+1+1)) rfl Y1 o.out O0 (pk 2) b.out d (by simp) rfl ?_;intro u m b))
 go_roundw;exact⟨k+1,O0,by go_num,by go_num,b,m.out.next d⟩;exact Z9
theorem a3I(A B:Nat)(v:Value)(n:Nat)(K:Int)(w:World)(h1:1<=K)(h2:K<=90000000000000)(hn:n<=1048576)(ho:Rw A B w 213 3 v n):
 Calls prog 167 #[v,.int .i64 K] w λe w'=>(e=.returned (.int .i64 (K+3*(n:Int)))/\Mf w' 213 [mB,mT,mT] K v n)/\Md A B [213] w w':=by
 obtain⟨a,cp,rfl,h⟩:=ho;have s:Hid (Pz A B w a 213 [mB,mT,mT] K 0 n):=LC h
 go_in
 go_wp2;go_loopw[1,5] (λq i wr=>∃k:Nat,k<=n/\i=.int .i64 k/\q=.int .i64 (K+3*(k:Int))/\Hid (Md A B [213] w wr)/\Hid (Pz A B wr a 213 [mB,mT,mT] K k n)) (λ_ i _=>n-(RowKit.intOf i).toNat);exact⟨0,J4 _,rfl,E5,Md.refl,s⟩;obtain⟨k,hk,rfl,rfl,b,f⟩:=hrel;by_cases o:k<n;rotate_left
 ·obtain rfl:k=n:=O0;go_wp2;go_ret;exact⟨⟨rfl,f.out.fin⟩,b⟩
 obtain⟨g,rfl,d,m⟩:=f.out.pos o;have f:Hid (Pt wr g 213 [mB,mT,mT] K (k*3) (n*3)):=m
 go_wp2_with(refine ql rfl 4 _ _ rfl (p:=k*3) rfl (v:=mB (K)) rfl Y1 f.out O0 pk3 b.out d (by simp) rfl ?_;intro u l b)
 refine(zi _ _ O0 O0).mono ?_;rintro e w1⟨rfl,c⟩
 replace b:=U0 (b.out.trans (Md.of c))
 replace l:=U0 (l.out.below c)
 go_wp2_with(refine ql rfl 9 _ _ rfl (p:=k*3+1) rfl (v:=mT (K+3*(k:Int)+1)) rfl Y1 l.out O0 (pk 1) b.out d (by simp) rfl ?_;intro u j b)
 refine(zi _ _ O0 O0).mono ?_;rintro e w2⟨rfl,c⟩
 replace b:=U0 (b.out.trans (Md.of c))
 replace j:=U0 (j.out.below c)
 go_wp2_with(refine ql rfl 9 _ _ rfl (p:=k*3+2) rfl (v:=mT (K+3*(k:Int)+1+1)) rfl Y1 j.out O0 (pk 2) b.out d (by simp) rfl ?_;intro u r b)
 go_roundw;exact⟨k+1,O0,by go_num,by go_num,b,r.out.next d⟩;exact Z9
theorem a4o(A B:Nat)(v:Value)(n:Nat)(K:Int)(w:World)(h1:1<=K)(h2:K<=90000000000000)(hn:n<=1048576)(ho:Rw A B w 138 4 v n):
 Calls prog 109 #[v,.int .i64 K] w λe w'=>(e=.returned (.int .i64 (K+4*(n:Int)))/\Mf w' 138 [mB,mT,mI,mT] K v n)/\Md A B [138] w w':=by
 obtain⟨a,cp,rfl,h⟩:=ho;have t:Hid (Pz A B w a 138 [mB,mT,mI,mT] K 0 n):=LC h
 go_in
 go_wp2;go_loopw[1,5] (λq i wr=>∃k:Nat,k<=n/\i=.int .i64 k/\q=.int .i64 (K+4*(k:Int))/\Hid (Md A B [138] w wr)/\Hid (Pz A B wr a 138 [mB,mT,mI,mT] K k n)) (λ_ i _=>n-(RowKit.intOf i).toNat);exact⟨0,J4 _,rfl,E5,Md.refl,t⟩;obtain⟨k,hk,rfl,rfl,b,f⟩:=hrel;by_cases o:k<n;rotate_left
 ·obtain rfl:k=n:=O0;go_wp2;go_ret;exact⟨⟨rfl,f.out.fin⟩,b⟩
 obtain⟨g,rfl,c,m⟩:=f.out.pos o;have f:Hid (Pt wr g 138 [mB,mT,mI,mT] K (k*4) (n*4)):=m
 go_wp2_with(refine ql rfl 4 _ _ rfl (p:=k*4) rfl (v:=mB (K+4*(k:Int))) rfl Y1 f.out O0 (pk 0) b.out c (by simp) rfl ?_;intro u l b)
 refine(zi _ _ O0 O0).mono ?_;rintro e w1⟨rfl,d⟩
 replace b:=U0 (b.out.trans (Md.of d))
 replace l:=U0 (l.out.below d)
 go_wp2_with(first|(refine ql rfl 9 _ _ rfl (p:=k*4+1) rfl (v:=mT (K+4*(k:Int)+1)) rfl Y1 l.out O0 (pk 1) b.out c (by simp) rfl ?_;intro u s b)|(refine ql rfl 3 _ _ rfl (p:=k*4+2) rfl (v:=mI (K+4*(k:Int)+1+1)) rfl Y1 s.out O0 (pk 2) b.out c (by simp) rfl ?_;intro u j b))
 refine(zi _ _ O0 O0).mono ?_;rintro e w3⟨rfl,d⟩
 replace b:=U0 (b.out.trans (Md.of d))
 replace j:=U0 (j.out.below d)
 go_wp2_with(refine ql rfl 9 _ _ rfl (p:=k*4+3) rfl (v:=mT (K+4*(k:Int)+1+1+1)) rfl Y1 j.out O0 (pk 3) b.out c (by simp) rfl ?_;intro u r b)
 go_roundw;exact⟨k+1,O0,by go_num,by go_num,b,r.out.next c⟩;exact Z9
def kQ(c e:Nat)(ls:List Nat)(K:Int)(i:Nat):Int:=K+(c:Int)*(i:Int)+(e:Int)*((ls.take i).sum:Nat)
theorem KU(ls:List Nat)(i:Nat):(ls.take (i+1)).sum=(ls.take i).sum+ls.getD i 0:=by
 rw[Yr,List.sum_append];cases h:ls[i]?<;>simp[List.getD,h]
theorem Qn(c e:Nat)(ls:List Nat)(K:Int):kQ c e ls K 0=K:=by simp[kQ]
theorem Ru(c e:Nat)(ls:List Nat)(K:Int)(i:Nat):kQ c e ls K (i+1)=kQ c e ls K i+c+e*(ls.getD i 0:Nat):=by
 unfold kQ;rw[KU]
 push_cast
 rw[Int.mul_add,Int.mul_add,Int.mul_one];omega
theorem au{c e:Nat}{ls:List Nat}{K:Int}{n:Nat}(h:∀i,i<n->ls.getD i 0<=1048576)(i:Nat)(a:i<=n):K<=kQ c e ls K i/\kQ c e ls K i<=K+((c+e*1048576:Nat):Int)*(i:Int):=by
 induction i with
 | zero=>rw[Qn];omega
 | succ i ih=>
  obtain⟨h1,h2⟩:=ih (by omega);have b:=Int.ofNat_le.2 (Nat.mul_le_mul_left e (h i a));have h0:=Int.natCast_nonneg (e*ls.getD i 0);rw[Ru,show((i+1:Nat):Int)=(i:Int)+1 from by omega,Int.mul_add,Int.mul_one];rw[aK c]at h2 ⊢;rw[Int.natCast_mul e (ls.getD i 0)]at b h0;omega
def Ap(n:Nat)(vs:List Value):Prop:=∀i j,i<n->j<n->i≠j->(vs.getD i undef).ownBlock=none\/(vs.getD i undef).ownBlock≠(vs.getD j undef).ownBlock
structure NR(A B:Nat)(w:World)(T:TypeId)(m j:Nat)(TI:TypeId)(mi:Nat)(v:Value)(n:Nat)(vs:List Value)(ls:List Nat):Prop where
 row:∃a c,v=.slice a n c/\(n=0\/∃g xs,a=some ⟨g,0,none⟩/\A<=g/\g<B/\Cl w g T xs/\n*m<=xs.length/\∀i,i<n->xs[i*m+j]?=some (vs.getD i undef))
 inn:∀i,i<n->Rw A B w TI mi (vs.getD i undef) (ls.getD i 0)
 le:∀i,i<n->ls.getD i 0<=1048576
structure MN(w:World)(T:TypeId)(m j:Nat)(TI:TypeId)(il:List (Int->Value))(off:Nat)(E:Int->Nat->Nat->Option Value)(c e:Nat)(K:Int)(v:Value)(n:Nat)(vs:List Value)(ls:List Nat):Prop where
 row:∃a cp,v=.slice a n cp/\(n=0\/∃g ys,a=some ⟨g,0,none⟩/\Cl w g T ys/\∀i,i<n->ys[i*m+j]?=some (vs.getD i undef)/\∀r x,E (kQ c e ls K i) (ls.getD i 0) r=some x->ys[i*m+r]?=some x)
 inn:∀i,i<n->Mf w TI il (kQ c e ls K i+off) (vs.getD i undef) (ls.getD i 0)
 le:∀i,i<n->ls.getD i 0<=1048576
section
variable{A B A' B' n m j mi off c e:Nat}{w w':World}{T TI:TypeId}{v:Value}{vs:List Value}{ls:List Nat}{il:List (Int->Value)}{K:Int}{S:List TypeId}{E:Int->Nat->Nat->Option Value}
theorem MN.keep(h:MN w T m j TI il off E c e K v n vs ls)(k:∀g t xs,Cl w g t xs->t=T\/t=TI->w'.heap[g]?=w.heap[g]?):MN w' T m j TI il off E c e K v n vs ls:=⟨by
 obtain⟨a,cp,e1,h1⟩:=h.row;exact⟨a,cp,e1,h1.imp id λ⟨g,ys,f,h2,d⟩=>⟨g,ys,f,(k g _ ys h2 (.inl rfl)).trans h2,d⟩⟩,λi b=>(h.inn i b).keep (λg ys _ C=>k g _ ys C (.inr rfl)),h.le⟩
theorem MN.below(h:MN w T m j TI il off E c e K v n vs ls)(k:Bw w w'):MN w' T m j TI il off E c e K v n vs ls:=h.keep (λg t xs C _=>k.block g C.lt)
theorem MN.md(h:MN w T m j TI il off E c e K v n vs ls)(k:Md A B S w w')(h1:T∉S)(h2:TI∉S):MN w' T m j TI il off E c e K v n vs ls:=h.keep (λg t xs C ht=>k.ty g t xs C (by rcases ht with rfl|rfl<;>assumption))
theorem NR.md(h:NR A B w T m j TI mi v n vs ls)(k:Md A' B' S w w')(ht:T∉S):NR A B w' T m j TI mi v n vs ls:=⟨by
 obtain⟨a,cp,e1,h1⟩:=h.row;exact⟨a,cp,e1,h1.imp id λ⟨g,xs,f,h2,e,b,d⟩=>⟨g,xs,f,h2,e,(k.ty g T xs b ht).trans b,d⟩⟩,λi c=>(h.inn i c).md k,h.le⟩
end
def rE(K:Int)(L:Nat):Nat->Option Value
 | 0=>some (mT K)
 | 2=>some (mT (K+1+3*(L:Int)))
 | _=>none
def nE(K:Int)(L:Nat):Nat->Option Value
 | 0=>some (mT K)
 | 1=>some (mI (K+1))
 | 2=>some (mT (K+1+1))
 | 4=>some (mI (K+1+1+1+4*(L:Int)))
 | 5=>some (mT (K+1+1+1+4*(L:Int)+1))
 | _=>none
theorem OH{w:World}{g:Nat}{t a:TypeId}{xs ys:List Value}(h:Cl w g t xs)(k:Cl w g a ys):t=a:=by
 have:=h.symm.trans k;injection this with e;injection e with e1 e2
theorem xB{A B g n mi:Nat}{w w':World}{t ti:TypeId}{xs vs:List Value}{ls:List Nat}(h:∀i,i<n->Rw A B w ti mi (vs.getD i undef) (ls.getD i 0))(o:Jr g w w')(C:Cl w g t xs)(ht:ti≠t):∀i,i<n->Rw A B w' ti mi (vs.getD i undef) (ls.getD i 0):=λi d=>by
 obtain⟨a,c,e,k⟩:=h i d;exact⟨a,c,e,k.imp id λ⟨q,ys,f,h1,h2,b,hl⟩=>⟨q,ys,f,h1,h2,b.on o (λe=>ht (by subst e;exact OH b C)),hl⟩⟩
theorem Vy{n k g:Nat}{w w':World}{t ti:TypeId}{xs vs:List Value}{ls:List Nat}{il:List (Int->Value)}{F:Nat->Int}(h:Ap n vs->∀i,i<k->Mf w ti il (F i) (vs.getD i undef) (ls.getD i 0))(o:Jr g w w')(C:Cl w g t xs)(ht:ti≠t):Ap n vs->∀i,i<k->Mf w' ti il (F i) (vs.getD i undef) (ls.getD i 0):=λb i a=>(h b i a).keep (λq ys _ c=>o.block q (λe=>ht (by subst e;exact OH c C)))
theorem a2V(a:OA)(c:Nat)(K:Int)(w:World):Calls prog 107 #[.slice a 0 c,.int .i64 K] w λe w'=>e=.returned (.int .i64 K)/\w'=w:=by
 go_in
 go_wp2;go_loopw[1,5] (λq i wr=>q=.int .i64 K/\i=.int .i64 0/\wr=w) (λ_ _ _=>0);exact⟨rfl,rfl,rfl⟩;obtain⟨rfl,rfl,h⟩:=hrel;subst h;go_wp2;go_ret;exact⟨rfl,rfl⟩
theorem a4J(A B:Nat)(v:Value)(n:Nat)(vs:List Value)(ls:List Nat)(K:Int)(w:World)(h1:1<=K)(h2:K<=50000000000000)(hn:n<=1048576)(hAB:A<=B)(ho:NR A B w 162 3 1 213 3 v n vs ls):
 Calls prog 107 #[v,.int .i64 K] w λe w'=>(e=.returned (.int .i64 (kQ 2 3 ls K n))/\(Ap n vs->MN w' 162 3 1 213 [mB,mT,mT] 1 rE 2 3 K v n vs ls))/\Md A B [162,213] w w':=by
 have H:=U0 ho.le;have HRI:=U0 ho.inn;obtain⟨a,cp,rfl,rfl|⟨g,xs,rfl,hA,hB,C,hl,P⟩⟩:=ho.row
 ·refine(a2V a cp K w).mono ?_;rintro e w'⟨rfl,h⟩;exact⟨⟨by rw[Qn],λ_=>⟨⟨a,cp,rfl,.inl rfl⟩,λi b=>absurd b (y9 _),λi b=>absurd b (y9 _)⟩⟩,h▸Md.refl⟩
 have HC:=U0 C;have HVI:=U0 P;clear C P ho
 go_in
 go_wp2;go_loopw[1,5] (λq i wr=>∃(k:Nat)(ys:List Value),k<=n/\i=.int .i64 k/\q=.int .i64 (kQ 2 3 ls K k)/\n*3<=ys.length/\Hid (Md A B [162,213] w wr)/\Hid (Cl wr g 162 ys)/\Hid (∀i,i<n->ys[i*3+1]?=some (vs.getD i undef))/\Hid (∀i,i<k->∀r x,rE (kQ 2 3 ls K i) (ls.getD i 0) r=some x->ys[i*3+r]?=some x)/\Hid (∀i,i<n->Rw A B wr 213 3 (vs.getD i undef) (ls.getD i 0))/\Hid (Ap n vs->∀i,i<k->Mf wr 213 [mB,mT,mT] (kQ 2 3 ls K i+1) (vs.getD i undef) (ls.getD i 0))) (λ_ i _=>n-(RowKit.intOf i).toNat);exact⟨0,xs,J4 _,rfl,by rw[Qn],hl,Md.refl,HC,HVI,λi h=>absurd h (y9 _),HRI,λ_ i h=>absurd h (y9 _)⟩;obtain⟨k,ys,hk,rfl,rfl,hl,l,o,N,DE,d,m⟩:=hrel;by_cases u:k<n;rotate_left
 ·obtain rfl:k=n:=O0;go_wp2;go_ret;exact⟨⟨rfl,λs=>⟨⟨_,_,rfl,.inr ⟨g,ys,rfl,o.out,λi b=>⟨N.out i b,DE.out i b⟩⟩⟩,m.out s,H.out⟩⟩,l.out⟩
 obtain⟨ai,Y,t,_⟩:=d.out k u;have I:=au (c:=2) (e:=3) (K:=K) H.out k hk;have J:=U0 (Ru 2 3 ls K k);have U:=H.out k u;obtain⟨L,eL⟩:∃L,Hid (ls.getD k 0=L):=⟨_,rfl⟩;obtain⟨X,F⟩:∃X,Hid (kQ 2 3 ls K k=X):=⟨_,rfl⟩;rw[eL.out]at t U
 replace t:=U0 t
 rw[F.out]at I ⊢
 replace J:=U0 (J.out.trans (by rw[F.out,eL.out]))
 replace I:K<=X/\X<=K+3145730*(k:Int):=I
 go_wp2_with fail
 refine(zi _ _ O0 O0).mono ?_;rintro e w0⟨rfl,j⟩
 replace l:=U0 (l.out.trans (Md.of j))
 replace o:=U0 (o.out.below j o.out.lt)
 replace d:=U0 (λi b=>(d.out i b).md (Md.of (A:=0) (B:=0) (S:=[]) j))
 replace m:=U0 (λh i b=>(m.out h i b).below j)
 clear j
 go_wp2_with(refine Cc rfl 9 _ _ rfl (p:=k*3) rfl rfl Y1 o.out O0 ?_;intro u0 c0 z;have f:Hid (Cl u0 g 162 (ys.set (k*3) (mT (X)))):=c0;replace l:=U0 (l.out.on hA hB (by simp) z o.out f.out);replace d:=U0 (xB d.out z o.out (by decide));replace m:=U0 (Vy m.out z o.out (by decide));clear z c0;have D:u0.cell? ⟨g,k*3+1,none⟩=some (.slice ai L Y):=by rw[f.out.cell,H_ (show k*3≠k*3+1 by omega),N.out k u,t.out])
 clear D;obtain⟨A',B',hr,W,V,Q⟩:=(d.out k u).one hAB;rw[t.out,eL.out]at hr;refine(a3I A' B' (.slice ai L Y) L _ _ O0 O0 U hr).mono ?_;rintro e O⟨⟨rfl,R⟩,hm⟩;have y:=U0 R
 replace m:Hid (Ap n vs->∀i,i<k->Mf O 213 [mB,mT,mT] (kQ 2 3 ls K i+1) (vs.getD i undef) (ls.getD i 0)):=λs i b=>(m.out s i b).keep (λq xs D C=>hm.block q C.lt (by
  rcases D8 q A' with h1|h1
  ·exact .inl h1
  rcases D8 q B' with h2|h2
  ·have h3:=Q q h1 h2;rcases s i k (by omega) u (by omega)with E|E
   ·rw[D]at E;cases E
   exact absurd (D.trans h3.symm) E
  exact .inr h2))
 replace d:=U0 (λi b=>(d.out i b).md hm)
 replace l:=U0 (l.out.trans (hm.mono W V (by simp)))
 replace f:Hid (Cl O g 162 (ys.set (k*3) (mT (X)))):=(hm.ty g 162 _ f.out (by decide)).trans f.out
 clear hm R Q W V hr
 go_wp2_with fail
 refine(zi _ _ O0 O0).mono ?_;rintro e w1⟨rfl,j⟩
 replace l:=U0 (l.out.trans (Md.of j))
 replace f:=U0 (f.out.below j f.out.lt)
 replace d:=U0 (λi b=>(d.out i b).md (Md.of (A:=0) (B:=0) (S:=[]) j))
 replace m:=U0 (λh i b=>(m.out h i b).below j)
 replace y:=U0 (y.out.below j)
 clear j
 go_wp2_with(refine Cc rfl 9 _ _ rfl (p:=k*3+2) rfl rfl Y1 f.out (by simp only[qj];omega) ?_;intro u1 Z o1;have C2:Hid (Cl u1 g 162 ((ys.set (k*3) (mT (X))).set (k*3+2) (mT (X+1+3*(L:Int))))):=Z;replace l:=U0 (l.out.on hA hB (by simp) o1 f.out C2.out);replace d:=U0 (xB d.out o1 f.out (by decide));replace y:=U0 (y.out.keep (λq xs _ C=>o1.block q (λe=>by subst e;exact absurd (OH C f.out) (by decide))));replace m:=U0 (Vy m.out o1 f.out (by decide));clear o1 Z)
 have V1:Hid (∀i,i<n->(((ys.set (k*3) (mT (X))).set (k*3+2) (mT (X+1+3*(L:Int)))))[i*3+1]?=some (vs.getD i undef)):=λi b=>by rw[H_ (show k*3+2≠i*3+1 by omega),H_ (show k*3≠i*3+1 by omega)];exact N.out i b
 have D1:Hid (∀i,i<k+1->∀r x,rE (kQ 2 3 ls K i) (ls.getD i 0) r=some x->(((ys.set (k*3) (mT (X))).set (k*3+2) (mT (X+1+3*(L:Int)))))[i*3+r]?=some x):=λi b r x hx=>by
  by_cases e:i=k;rotate_left
  ·have hr:r<3:=by
    rcases r with _|_|_|r
    any_goals omega
    cases hx
   rw[H_ (show k*3+2≠i*3+r by omega),H_ (show k*3≠i*3+r by omega)];exact DE.out i (by omega) r x hx
  replace e:=e.symm
  subst e;rw[F.out,eL.out]at hx
  match r,hx with
  | 0,hx=>rw[Qo (k*3),H_ (show k*3+2≠k*3 by omega),Po (by omega)];exact hx
  | 1,hx=>cases hx
  | 2,hx=>rw[Po (by simp only[qj];omega)];exact hx
 have I1:Hid (Ap n vs->∀i,i<k+1->Mf u1 213 [mB,mT,mT] (kQ 2 3 ls K i+1) (vs.getD i undef) (ls.getD i 0)):=λs i b=>by
  by_cases e:i=k
  ·replace e:=e.symm
   subst e;rw[F.out,eL.out,t.out];exact y
  exact m s i (by omega)
 have hl1:n*3<=(((ys.set (k*3) (mT (X))).set (k*3+2) (mT (X+1+3*(L:Int))))).length:=by simp only[qj];exact hl
 go_roundw;exact⟨k+1,_,O0,by go_num,by rw[J.out];go_num,hl1,l,C2,V1,D1,d,I1⟩;exact Z9
end Go.Proofs.YtkccjgajimjjdaaGreatDoor
namespace Go.Proofs.YtkccjgajimjjdaaGreatDoor
open Proofs.Tryz Go.RowKit
theorem Xo{α:Type}{d:α}{x y:List α}(h:x.length=y.length)(hd:∀j,j<x.length->x.getD j d=y.getD j d):x=y:=by
 apply dB h;intro i h1 h2;have e:=hd i h1;simpa[List.getD,h1,h2]using e
theorem c145(a c:List Int)(v u:OA)(D C:Nat)(w:World)(hl:a.length<=1048576)(hl':c.length<=1048576)(s:Rf w v a)(r:Rf w u c):
 Calls prog 145 #[.slice v a.length D,.slice u c.length C] w λe w'=>Rb (a=c) e/\Bw w w':=by
 by_cases d:a.length=c.length;rotate_left
 ·have n:Hid (¬a=c):=λh=>d (by rw[h]);have hn1:¬(a.length:Int)=c.length:=O0
  go_in
  go_wp2;go_ret;exact⟨X5 n.out,G5 _ _⟩
 rw[<- d];have m:=U0 d;clear d;obtain⟨b,off,hc⟩:=Jg s;obtain⟨b',off',q⟩:=Jg r;have I:=U0 hc;have H:=U0 q;clear hc q s r
 go_in
 go_wp2;go_loopw[13] (λi wr=>∃(k:Nat),k<=a.length/\i=.int .i64 k/\Hid (∀j,j<k->a.getD j 0=c.getD j 0)/\Below w.heap.size w wr) (λi _=>a.length-(RowKit.intOf i).toNat);exact⟨0,J4 _,rfl,λj h=>absurd h (y9 _),G5 _ _⟩;obtain⟨k,hk2,rfl,hd,l⟩:=hrel;have t:=l;by_cases g:k<a.length
 ·obtain⟨ha,z,p⟩:=Jd I.out g;rcases H.out with x|⟨A,y,o⟩
  ·have d:=m.out;rw[x]at d;rw[d]at g;exact absurd g (y9 _)
  subst ha;subst A;have g0:=(l.cell (by exact z)).trans (p k g);have B:=(l.cell (by exact y)).trans (o k (by have:=m.out;omega));clear p o;by_cases f:a.getD k 0=c.getD k 0
  ·have F:Hid (∀j,j<k+1->a.getD j 0=c.getD j 0):=λj hj=>by
    rcases D8 j k with h|h
    ·exact hd.out j h
    obtain rfl:j=k:=O0;exact f
   rw[<- f]at B;generalize a.getD k 0=X at*;clear f hd
   go_wp2_with fail
   go_region
   all_goals go_wp2
   all_goals go_roundw
   all_goals first
    | exact⟨k+1,O0,by go_num,F,l.drew⟩
    | (exact Z9)
  have n:Hid (¬a=c):=λh=>f (by rw[h]);generalize a.getD k 0=X at*;generalize c.getD k 0=Y at*;have hg':(X==Y)=false:=by simpa using f
  go_wp2_with fail
  go_region
  all_goals go_wp2
  all_goals go_ret
  all_goals exact⟨X5 n.out,t.drew⟩
 obtain rfl:k=a.length:=O0;have E:Hid (a=c):=by
  exact Xo m hd
 go_wp2;go_ret;exact⟨J_ E,t⟩
theorem c194(a c:LB)(v u:OA)(D C:Nat)(w:World)(hl:a.length<=1048576)(hl':c.length<=1048576)(s:Z7 w v a)(r:Z7 w u c):
 Calls prog 194 #[.slice v a.length D,.slice u c.length C] w λe w'=>Rb (a=c) e/\Bw w w':=by
 by_cases d:a.length=c.length;rotate_left
 ·have n:Hid (¬a=c):=λh=>d (by rw[h]);have hn1:¬(a.length:Int)=c.length:=O0
  go_in
  go_wp2;go_ret;exact⟨X5 n.out,G5 _ _⟩
 rw[<- d];have m:=U0 d;clear d;obtain⟨b,off,hc⟩:=La s;obtain⟨b',off',q⟩:=La r;have I:=U0 hc;have H:=U0 q;clear hc q s r
 go_in
 go_wp2;go_loopw[13] (λi wr=>∃(k:Nat),k<=a.length/\i=.int .i64 k/\Hid (∀j,j<k->a.getD j ByteArray.empty=c.getD j ByteArray.empty)/\Below w.heap.size w wr) (λi _=>a.length-(RowKit.intOf i).toNat);exact⟨0,J4 _,rfl,λj h=>absurd h (y9 _),G5 _ _⟩;obtain⟨k,hk2,rfl,hd,l⟩:=hrel;have t:=l;by_cases g:k<a.length
 ·obtain⟨ha,z,p⟩:=Jd I.out g;rcases H.out with x|⟨A,y,o⟩
  ·have d:=m.out;rw[x]at d;rw[d]at g;exact absurd g (y9 _)
  subst ha;subst A;have g0:=(l.cell (by exact z)).trans (p k g);have B:=(l.cell (by exact y)).trans (o k (by have:=m.out;omega));clear p o;by_cases f:a.getD k ByteArray.empty=c.getD k ByteArray.empty
  ·have F:Hid (∀j,j<k+1->a.getD j ByteArray.empty=c.getD j ByteArray.empty):=λj hj=>by
    rcases D8 j k with h|h
    ·exact hd.out j h
    obtain rfl:j=k:=O0;exact f
   rw[<- f]at B;generalize a.getD k ByteArray.empty=X at*;clear f hd
   go_wp2_with fail
   go_region
   all_goals go_wp2
   all_goals go_roundw
   all_goals first
    | exact⟨k+1,O0,by go_num,F,l.drew⟩
    | (exact Z9)
  have n:Hid (¬a=c):=λh=>f (by rw[h]);generalize a.getD k ByteArray.empty=X at*;generalize c.getD k ByteArray.empty=Y at*;have q':=V_.2 (Mc f)
  go_wp2_with fail
  go_region
  all_goals go_wp2
  all_goals go_ret
  all_goals exact⟨X5 n.out,t.drew⟩
 obtain rfl:k=a.length:=O0;have E:Hid (a=c):=by
  exact Xo m hd
 go_wp2;go_ret;exact⟨J_ E,t⟩
theorem a3s(a c:List T.F2)(z y:OA)(K J:Nat)(w:World)(hl:a.length<=1048576)(hl':c.length<=1048576)(x:T.G6 w z a)(v:T.G6 w y c):
 Calls prog 147 #[.slice z a.length K,.slice y c.length J] w λe w'=>Rb (a=c) e/\Bw w w':=by
 by_cases d:a.length=c.length;rotate_left
 ·have n:Hid (¬a=c):=λh=>d (by rw[h]);have hn1:¬(a.length:Int)=c.length:=O0
  go_in
  go_wp2;go_ret;exact⟨X5 n.out,G5 _ _⟩
 rw[<- d];have m:=U0 d;clear d;obtain⟨b,off,hc⟩:=T.v_ x;obtain⟨b',off',s⟩:=T.v_ v;have P:=U0 hc;have O:=U0 s;clear hc s x v
 go_in
 go_wp2;go_loopw[13] (λi wr=>∃(k:Nat),k<=a.length/\i=.int .i64 k/\Hid (∀j,j<k->a.getD j T.G9=c.getD j T.G9)/\Below w.heap.size w wr) (λi _=>a.length-(RowKit.intOf i).toNat);exact⟨0,J4 _,rfl,λj h=>absurd h (y9 _),G5 _ _⟩;obtain⟨k,hk2,rfl,hd,f⟩:=hrel;have q:=f;by_cases g:k<a.length
 ·obtain⟨ha,u,p⟩:=Jd P.out g;rcases O.out with E|⟨F,t,o⟩
  ·have d:=m.out;rw[E]at d;rw[d]at g;exact absurd g (y9 _)
  subst ha;subst F;have g0:=(f.cell (by exact u)).trans ((p k g).1);have g1:=(f.cell (by exact u)).trans ((p k g).2);have I:=(f.cell (by exact t)).trans ((o k (by have:=m.out;omega)).1);have H:=(f.cell (by exact t)).trans ((o k (by have:=m.out;omega)).2);clear p o;by_cases l:a.getD k T.G9=c.getD k T.G9
  ·have N:Hid (∀j,j<k+1->a.getD j T.G9=c.getD j T.G9):=λj hj=>by
    rcases D8 j k with h|h
    ·exact hd.out j h
    obtain rfl:j=k:=O0;exact l
   rw[<- l]at I H;generalize a.getD k T.G9=X at*;clear l hd
   go_wp2_with fail
   go_region
   all_goals go_wp2
   all_goals go_roundw
   all_goals first
    | exact⟨k+1,O0,by go_num,N,f.drew⟩
    | (exact Z9)
  have n:Hid (¬a=c):=λh=>l (by rw[h]);generalize a.getD k T.G9=X at*;generalize c.getD k T.G9=Y at*;obtain⟨A,C⟩:=X;obtain⟨t2,B⟩:=Y;by_cases r:A=t2
  ·subst r;have D:¬C=B:=λh=>l (by rw[h]);have q3':=Mc D
   go_wp2_with fail
   go_region
   all_goals go_wp2
   all_goals go_ret
   all_goals exact⟨X5 n.out,q.drew⟩
  have q2':=Mc r
  go_wp2_with fail
  go_region
  all_goals go_wp2
  all_goals go_ret
  all_goals exact⟨X5 n.out,q.drew⟩
 obtain rfl:k=a.length:=O0;have L:Hid (a=c):=by
  exact Xo m hd
 go_wp2;go_ret;exact⟨J_ L,q⟩
theorem a0I(x:Value)(n:Nat):zs [x] n=List.replicate n x:=by
 induction n with
 | zero=>rfl
 | succ n ih=>rw[zF,ih];rfl
theorem wY(x:Value)(hx:x.oneCell'=true)(n:Nat):∀v∈List.replicate n x,v.oneCell'=true:=λv hv=>by rw[(List.mem_replicate.1 hv).2];exact hx
theorem lM{n k m:Nat}{V Z:Value}(h:k+m<=n):splice (List.replicate k V++List.replicate (n-k) Z) k (List.replicate m V)=List.replicate (k+m) V++List.replicate (n-(k+m)) Z:=by
 unfold splice;rw[List.take_left' E5,Vz,List.drop_append,List.drop_eq_nil_of_le E5,j_,Vz,List.drop_replicate,<- Zr,List.replicate_append_replicate]
 congr 2
 omega
theorem a4G(n:Int)(w:World)(a:n=1\/n=2\/n=3\/n=4):Calls prog 284 #[.int .u64 1,.int .u64 n] w λe w'=>e=.returned (.tuple #[.int .u64 0,.int .u64 n])/\w'=w:=by
 rcases a with rfl|rfl|rfl|rfl
 all_goals
  go_in
  go_wp2;go_ret2;exact⟨rfl,rfl⟩
theorem a3l(n:Int)(w:World)(a:n=1\/n=2\/n=3\/n=4):Calls prog 243 #[.int .u64 1,.int .u64 n] w λe w'=>e=.returned (.tuple #[.int .u64 0,.int .u64 n])/\w'=w:=by
 go_in
 go_wp2_with fail
 refine(a4G n w a).mono ?_;rintro e w1⟨rfl,rfl⟩;go_wp2;go_ret2;exact⟨rfl,rfl⟩
theorem a3V(n x:Nat)(w:World)(c:1<=n/\n<=4)(hx:x<w.heap.size)(hc:w.cell? ⟨x,0,none⟩=some (.int .i64 (-1))):
 Calls prog 197 #[.slice (some ⟨x,0,none⟩) 1 1,.int .i64 n] w λe w'=>(∃g,e=.returned (.slice (some ⟨g,0,none⟩) n n)/\w.heap.size<=g/\Cl w' g 3 (List.replicate n (.int .i64 (-1))))/\Bw w w':=by
 obtain⟨p,B,s,r,q⟩:=info_parts a2I;have hmk:∀u:World,(Instr.makeSlice 31 (vI (n:Int)) (vI (n:Int))).run prog u=
  .ok (vL (some (aW u 0)) n n) (u.alloc (.cells (List.replicate n (Value.int .i64 0)).toArray 3)):=λu=>by
  have h:=run_make (P:=prog) u 31 3 p vO underlying31 B s .i64 .i64 (n:Int) (n:Int) O0 (BF _) (by rw[q];omega) O0;have e:=KL [Value.int .i64 0] n;rw[a0I]at e;rw[<- e];simpa[r,Value.cells]using h
 have hu:IntKind.u64.wrap (n:Int)=n:=by obtain rfl|rfl|rfl|rfl:n=1\/n=2\/n=3\/n=4:=O0<;>rfl
 have hv:IntKind.i64.wrap (n:Int)=n:=by obtain rfl|rfl|rfl|rfl:n=1\/n=2\/n=3\/n=4:=O0<;>rfl
 go_in
 go_wp2_with fail
 refine(a3l n w O0).mono ?_;rintro e w1⟨rfl,t⟩;obtain rfl:=t.symm;have R:=U0 (X4 w (List.replicate n (Value.int .i64 0)) 3);have f:Bw w (w.alloc (.cells (List.replicate n (Value.int .i64 0)).toArray 3)):=Y6;have z:=(f.cell (by exact hx)).trans hc;have J:Hid (∀j v,([vI (-1)]:List Value)[j]?=some v->(w.alloc (.cells (List.replicate n (Value.int .i64 0)).toArray 3)).cell? ((aA x 0).add j)=some v):=λj v h=>by
  match j with
  | 0=>obtain rfl:=I_ h;exact z
  | j+1=>simp at h
 have a:([vI (-1)]:List Value).length=Nat.min 1 n:=(Sr c.1).symm
 go_wp2_with(refine wpList_copy_splice rfl (.tmp 31) (.tmp 32) 31 31 rfl 3 underlying31 Y1 _ _ _ _ _ _ rfl rfl w.heap.size 0 (List.replicate n (Value.int .i64 0)) 3 R.out [vI (-1)] a (λ_=>⟨rfl,_,rfl,J.out⟩) Q8 (by simp[Value.oneCell']) w.heap.size w f X7 ?_;intro o E H)
 have O:Hid (Cl o w.heap.size 3 (List.replicate 1 (Value.int .i64 (-1))++List.replicate (n-1) (Value.int .i64 0))):=by
  have h:=E.out;have e:=lM (n:=n) (k:=0) (m:=1) (V:=vI (-1)) (Z:=vO) O0;simp only[List.replicate_zero,j_,Nat.sub_zero,o9]at e;show _=_;rw[<- e];exact h
 go_loopw[8] (λi wr=>∃k:Nat,1<=k/\k<=n/\i=.int .i64 k/\Hid (Cl wr w.heap.size 3 (List.replicate k (Value.int .i64 (-1))++List.replicate (n-k) (Value.int .i64 0)))/\Below w.heap.size w wr) (λi _=>n-(RowKit.intOf i).toNat);exact⟨1,J8 _,c.1,rfl,O,H⟩;obtain⟨k,hk1,hk,rfl,b,d⟩:=hrel;by_cases hlt:k<n;rotate_left
 ·obtain rfl:k=n:=O0;have Q:Hid (Cl wr w.heap.size 3 (List.replicate k (Value.int .i64 (-1)))):=by
   have h:=b.out;rw[Xu,List.replicate_zero,Ot]at h;exact h
  go_wp2;go_ret;exact⟨⟨_,rfl,X7,Q⟩,d⟩
 have L:Hid (∀j v,(List.replicate (min k (n-k)) (Value.int .i64 (-1)))[j]?=some v->wr.drew.cell? ((aW w 0).add j)=some v):=λj v h=>by
  have A:j<min k (n-k):=by have:=(Zi.1 h).1;simpa using this
  rw[Bo,o9];refine(b.out.cell j).trans ?_;rw[G_ Q8,<- h,VU,VU,L8 O0,L8 A]
 go_wp2_with fail
 refine wp_region_held_drew (S:=λ_=>True) Y1 trivial λhH=>?_
 iterate 7 refine sq ?_
 refine rq 7 λK I=>?_;have a:(List.replicate (min k (n-k)) (Value.int .i64 (-1))).length=Nat.min k (n-k):=Vz;refine step_copy_splice rfl (.tmp 41) (.tmp 44) 31 31 rfl 3 underlying31 Y1 _ _ _ _ _ _ rfl rfl w.heap.size k (List.replicate k (Value.int .i64 (-1))++List.replicate (n-k) (Value.int .i64 0)) 3 b (List.replicate (min k (n-k)) (Value.int .i64 (-1))) a (λ_=>⟨Y7 O0,_,rfl,L⟩) Q8 (wY _ rfl _) w.heap.size w (d.trans (G5 _ _).drew) X7 ?_;intro l D F;have N:Hid (Cl l w.heap.size 3 (List.replicate (k+min k (n-k)) (Value.int .i64 (-1))++List.replicate (n-(k+min k (n-k))) (Value.int .i64 0))):=by
  show _=_;rw[<- lM O0];exact D
 rw[Vz];have hm1:1<=min k (n-k):=O0;have y:k+min k (n-k)<=n:=O0;have C:goInt ((min k (n-k):Nat):Int)=vI ((min k (n-k):Nat):Int):=rfl;rw[C];generalize min k (n-k)=m at*;have hkm:IntKind.i64.wrap ((k:Int)+(m:Int))=((k+m:Nat):Int):=by rw[BJ];omega
 refine A8 I trivial λhH=>?_
 iterate 2 refine sq ?_
 refine wdn ?_;go_wp2;go_roundw;exact⟨k+m,O0,y,by rw[aK],N,F⟩;exact Z9
theorem c146(n:Nat)(w:World)(b:1<=n/\n<=4):Calls prog 146 #[.int .i64 n] w λe w'=>(∃g,e=.returned (.slice (some ⟨g,0,none⟩) n n)/\w.heap.size<=g/\Cl w' g 3 (List.replicate n (.int .i64 (-1))))/\Bw w w':=by
 have a:Bw w (w.alloc (.cells #[vI (-1)] 3)):=Y6
 go_in
 go_wp2_with fail
 refine(a3V n w.heap.size _ b E5 (by simp[go_sem])).mono ?_;rintro e w1⟨⟨g,rfl,d,h1⟩,f⟩;have c:=I8 a.size d;have i:=U0 h1;have h:=U0 (J5 a f);go_wp2;go_ret;exact⟨⟨g,rfl,c,i⟩,h⟩
theorem c61(a c:List T.F2)(n d:OA)(o m:Nat)(w:World)(hl:a.length<=1048576)(hl':c.length<=1048576)(F:T.G6 w n a)(E:T.G6 w d c):
 Calls prog 61 #[.agg #[.slice n a.length o],.agg #[.slice d c.length m]] w λe w'=>Rb (a=c) e/\Bw w w':=by
 go_in
 go_upto_region 1 with fail
 have z:=U0 (U8 (X4 w [vL n a.length o] 40) (.cells #[vL d c.length m] 40));have y:Hid (Cl ((w.alloc (.cells #[vL n a.length o] 40)).alloc (.cells #[vL d c.length m] 40)) (w.heap.size+1) 40 [vL d c.length m]):=by show Cl _ _ _ _;have h:=X4 (w.alloc (.cells #[vL n a.length o] 40)) [vL d c.length m] 40;simpa using h
 have H:Hid (Bw w ((w.alloc (.cells #[vL n a.length o] 40)).alloc (.cells #[vL d c.length m] 40))):=Y6.alloc E5 _;generalize (w.alloc (.cells #[vL n a.length o] 40)).alloc (.cells #[vL d c.length m] 40)=V at*;have x:=z.out.cell 0;have r:=y.out.cell 0;simp only[gz]at x r;by_cases f:a.length=c.length;rotate_left
 ·have t:Hid (¬a=c):=λh=>f (by rw[h]);have hn1:¬(a.length:Int)=c.length:=O0;go_wp2;go_ret;exact⟨X5 t.out,H.out⟩
 have s:=U0 f;rw[<- f]at r;obtain⟨b,off,hc⟩:=T.v_ F;obtain⟨b',off',B⟩:=T.v_ E;have HC:=U0 hc;have Z:=U0 B;have R:=U0 z.out.lt;have S:=U0 y.out.lt;clear hc B F E z y f;go_wp2;go_loopw[5] (λi wr=>∃(k:Nat),k<=a.length/\i=.int .i64 k/\Hid (∀j,j<k->a.getD j T.G9=c.getD j T.G9)/\Below V.heap.size V wr) (λi _=>a.length-(RowKit.intOf i).toNat);exact⟨0,J4 _,rfl,λj h=>absurd h (y9 _),G5 _ _⟩;obtain⟨k,hk2,rfl,hd,q⟩:=hrel
 replace x:=(q.cell (by exact R.out)).trans x
 replace r:=(q.cell (by exact S.out)).trans r
 have l:=U0 (J5 H.out q);by_cases p:k<a.length;rotate_left
 ·obtain rfl:k=a.length:=O0;have U:=U0 (Xo s.out hd.out);go_wp2;go_ret;exact⟨J_ U.out,l.out⟩
 obtain⟨ha,D,v⟩:=Jd HC.out p;rcases Z.out with N|⟨O,C,u⟩
 ·have f:=s.out;rw[N]at f;rw[f]at p;exact absurd p (y9 _)
 subst ha;subst O;have g0:=(l.out.cell (by exact D)).trans (v k p).1;have g1:=(l.out.cell (by exact D)).trans (v k p).2;have Q:=(l.out.cell (by exact C)).trans (u k (by have:=s.out;omega)).1;have P:=(l.out.cell (by exact C)).trans (u k (by have:=s.out;omega)).2;clear v u;by_cases g:a.getD k T.G9=c.getD k T.G9
 ·have W:Hid (∀j,j<k+1->a.getD j T.G9=c.getD j T.G9):=λj hj=>by
   rcases D8 j k with h|h
   ·exact hd.out j h
   obtain rfl:j=k:=O0;exact g
  rw[<- g]at Q P;generalize a.getD k T.G9=X at*;clear g hd
  go_wp2_with fail
  go_region
  all_goals go_wp2
  all_goals go_roundw
  all_goals first
   | exact⟨k+1,O0,by go_num,W,q.drew⟩
   | (exact Z9)
 have t:Hid (¬a=c):=λh=>g (by rw[h]);generalize a.getD k T.G9=X at*;generalize c.getD k T.G9=Y at*;obtain⟨I,K⟩:=X;obtain⟨t2,J⟩:=Y;by_cases A:I=t2
 ·subst A;have L:¬K=J:=λh=>g (by rw[h]);have q3':=Mc L;clear g
  go_wp2_with fail
  go_region
  all_goals go_wp2
  all_goals go_ret
  all_goals exact⟨X5 t.out,l.out.drew⟩
 have q2':=Mc A;clear g
 go_wp2_with fail
 go_region
 all_goals go_wp2
 all_goals go_ret
 all_goals exact⟨X5 t.out,l.out.drew⟩
