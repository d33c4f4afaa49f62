import Derived.Test.YtkccjgajimjjdaaGreatDoorvD
import Derived.Test.YtkccjgajimjjdaaGreatDooryA
import Derived.Shelf.LaysM
import Derived.Shelf.Strconv.Itoa0
import Derived.Shelf.Strconv.Itoa1
import Derived.Shelf.Strconv.Itoa2
import Derived.Shelf.Strconv.Itoa3
set_option linter.unusedVariables false
set_option maxHeartbeats 8000000
set_option maxRecDepth 100000
namespace Go.Proofs.YtkccjgajimjjdaaGreatDoor
open Proofs.Tryz Go.RowKit
structure TB(w:World)(ta tr:TypeId)(ar zs xs:List Value)(P:World->Prop)(V:World):Prop where
 bel:Bw w V
 sz:w.heap.size+3<=V.heap.size
 ca:Cl V w.heap.size ta ar
 cr:Cl V (w.heap.size+1) tr zs
 co:Cl V (w.heap.size+1+1) tr xs
 kp:Kp (w.heap.size+3) V P
section
variable{w V V1:World}{ta tr:TypeId}{ar zs xs xs':List Value}{P Q:World->Prop}
theorem Nj:TB w ta tr ar zs zs (λ_=>True) (((w.alloc (.cells ar.toArray ta)).alloc (.cells zs.toArray tr)).alloc (.cells zs.toArray tr)):=
 ⟨(Y6.alloc E5 _).alloc Q8 _,E5,U8 (U8 (X4 w ar ta) _) _,U8 (by have h:=X4 (w.alloc (.cells ar.toArray ta)) zs tr;simpa using h) _,by have h:=X4 ((w.alloc (.cells ar.toArray ta)).alloc (.cells zs.toArray tr)) zs tr;simpa using h,λ_ _ _=>trivial⟩
theorem TB.put(h:TB w ta tr ar zs xs P V)(j:Nat)(v:Value):TB w ta tr ar zs (xs.set j v) P (V.setCell ⟨w.heap.size+1+1,j,none⟩ v):=
 have o:=O_ V (w.heap.size+1+1) j v
 ⟨h.bel.trans (o.below O0),by have:=h.sz;have:=o.size;omega,h.ca.on o O0,h.cr.on o O0,h.co.set j v,h.kp.on o O0⟩
theorem TB.on(h:TB w ta tr ar zs xs P V)(o:Jr (w.heap.size+1+1) V V1)(c:Cl V1 (w.heap.size+1+1) tr xs'):TB w ta tr ar zs xs' P V1:=
 ⟨h.bel.trans (o.below O0),by have:=h.sz;have:=o.size;omega,h.ca.on o O0,h.cr.on o O0,c,h.kp.on o O0⟩
theorem TB.call(h:TB w ta tr ar zs xs P V)(a:Bw V V1)(b:Kp V.heap.size V1 Q):TB w ta tr ar zs xs (λu=>P u/\Q u) V1:=
 ⟨J5 h.bel a,I8 h.sz a.size,h.ca.below a h.ca.lt,h.cr.below a h.cr.lt,h.co.below a h.co.lt,λu h1 h2=>⟨h.kp.below a u h1 h2,b.low h.sz u h1 h2⟩⟩
theorem TB.end_{z:World}(h:TB w ta tr ar zs xs P V)(o:Jr (w.heap.size+1) V z):Kp w.heap.size z P/\Bw w z:=⟨(h.kp.on o O0).low O0,h.bel.trans (o.below O0)⟩
end
end Go.Proofs.YtkccjgajimjjdaaGreatDoor
namespace Go.Proofs.YtkccjgajimjjdaaGreatDoor
open Proofs.Tryz Go.RowKit
def Rf(w:World)(a:OA)(ss:List Int):Prop:=
 ss=[]\/∃b off,a=some ⟨b,off,none⟩/\b<w.heap.size/\∀i,i<ss.length->w.cell? ⟨b,off+i,none⟩=some (.int .i64 (ss.getD i 0))
theorem Jg{w:World}{a:OA}{ss:List Int}(h:Rf w a ss):∃b off,(ss=[]\/(a=some ⟨b,off,none⟩/\b<w.heap.size/\∀i,i<ss.length->w.cell? ⟨b,off+i,none⟩=some (.int .i64 (ss.getD i 0)))):=by
 rcases h with h|⟨b,off,h⟩
 ·exact⟨0,0,.inl h⟩
 exact⟨b,off,.inr h⟩
theorem Jh{w w':World}{a:OA}{ss:List Int}(h:Rf w a ss)(c:Bw w w'):Rf w' a ss:=by
 rcases h with h|⟨b,off,h1,h2,e⟩
 ·exact .inl h
 exact .inr ⟨b,off,h1,U9 h2 c.size,λi d=>by rw[c.cell (by exact h2)];exact e i d⟩
theorem a2I:(prog.info? 3).map (λi=>(i.zero,i.size,i.bytes))=some (some (.int .i64 0),1,8):=Y1
theorem c36(a l:OA)(cap n:Nat)(ss:List Int)(w:World)(hl:ss.length<=1048576)(j:Rf w a ss)(h:Rf w l ss):
 Calls prog 36 #[.slice a ss.length cap,.slice l ss.length n] w λe w'=>e=.returned (.bool true)/\Bw w w':=by
 obtain⟨b,off,hc⟩:=Jg j;have p:=U0 hc;clear hc j;obtain⟨b',off',g⟩:=Jg h;have o:=U0 g;clear g h
 go_in
 go_wp2;go_loopw[5] (λi wr=>∃(k nq:Nat),k<=ss.length/\i=.int .i64 k/\wr=w.drewN nq) (λi _=>ss.length-(RowKit.intOf i).toNat);exact⟨0,0,J4 _,rfl,rfl⟩;obtain⟨k,nq,hk,rfl,rfl⟩:=hrel;by_cases c:k<ss.length
 ·obtain⟨ha,hbw,f⟩:=Jd p.out c;obtain⟨m,a7f,d⟩:=Jd o.out c;subst ha;subst m;have g0:=f k c;have g1:=d k c;generalize ss.getD k 0=x at*;clear f d
  go_wp2_with fail
  go_quiet (fail)
  go_wp2;go_roundw;exact⟨k+1,_,O0,by go_num,rfl⟩;exact Z9
 go_wp2;go_ret;exact⟨rfl,below_drewN _⟩
theorem c14(a:OA)(cap n:Nat)(l:Int)(w:World)(h0:0<=l)(h1:l<=1048576)(hn:n<=9223372036854775807):
 Calls prog 14 #[.slice a n cap,.int .i64 l] w λe w'=>(∃r:Int,e=.returned (.int .i64 r)/\(0<=r->n<=1048576/\r<=l))/\w'=w:=by
 by_cases h:l<n
 ·go_in
  go_wp2;go_ret;exact⟨⟨-1,rfl,λh=>O0⟩,rfl⟩
 go_in
 go_wp2;go_ret;exact⟨⟨_,rfl,λh=>⟨O0,O0⟩⟩,rfl⟩
theorem a3r(n:Int)(w:World):
 Calls prog 137 #[.int .i64 n] w λe w'=>e=.returned (.bool (decide (1<=n/\n<=4)))/\w'=w:=by
 by_cases h1:1<=n<;>by_cases h2:n<=4
 all_goals
  go_in
  go_wp2;go_ret;exact⟨by simp[h1,h2],rfl⟩
def UZ(A B:Nat)(u:World)(a:OA)(t:TypeId)(n m j:Nat)(ti:TypeId)(c:Nat):Prop:=∃g,a=some ⟨g,0,none⟩/\A<=g/\g<B/\zI B u g t (n*m) n m j ti c
def mT(i:Int):Value:=.string (I4 (109::dec i))
def mI(i:Int):Value:=.int .i64 i
def InO(u:World)(g n m j:Nat)(ti:TypeId)(c:Nat):Prop:=∀i,i<n->∃ai ni ci,u.cell? ⟨g,i*m+j,none⟩=some (.slice ai ni ci)/\ni<=1048576/\ax (g+1) u ai ti (ni*c)
def gu{α:Type}(is:List α)(f:α->List Value)(z:List Value)(k:Nat):List Value:=(is.take k).flatMap f++zs z (is.length-k)
section
variable{α β:Type}{A A' b g n m j c k:Nat}{u w:World}{a:OA}{t ti:TypeId}{xs z:List Value}{v:Value}{f:α->List Value}{is:List α}{d:α}
theorem ax.one(h:ax A u a t (n*1))(h1:A'<=A):ax A' u a t n:=by
 rw[Lm]at h;exact h.mono h1
theorem jQ{L:World->Prop}(h:Kp b w (λu=>L u/\ax A u a t m))(h1:A'<=A):Kp b w (λu=>L u/\ax A' u a t m):=h.imp λu k=>⟨k.1,k.2.mono h1⟩
theorem qU{L:World->Prop}(h:Kp b w (λu=>L u/\ax A u a t (n*1)))(h1:A'<=A):Kp b w (λu=>L u/\ax A' u a t n):=h.imp λu k=>⟨k.1,k.2.one h1⟩
theorem a1X{L I:World->Prop}(h:Kp b w (λu=>L u/\ax A u a t m/\I u))(h1:A'<=A):Kp b w (λu=>L u/\ax A' u a t m/\I u):=h.imp λu k=>⟨k.1,k.2.1.mono h1,k.2.2⟩
theorem ax.ow(h:ax A u a t m):Ow A u.heap.size u a t m:=by
 obtain⟨g,xs,h1,h2,b,c⟩:=h;exact⟨g,xs,h1,h2,b.lt,b,c⟩
theorem a1W(h:ax A u (some ⟨g,0,none⟩) t (n*m))(h2:InO u g n m j ti c):UZ A u.heap.size u (some ⟨g,0,none⟩) t n m j ti c:=by
 obtain⟨q,xs,e,p,a,o⟩:=h;cases e;refine⟨g,rfl,p,a.lt,⟨xs,a,o⟩,λi l=>?_⟩;obtain⟨s,b,r,k,f,d⟩:=h2 i l;exact⟨s,b,r,k,f,d.ow⟩
theorem Qx{T e:TypeId}{a:Value}{b:Nat}(j:prog.underlying T=some (.slice e))(l:(prog.info? e).map (λi=>(i.zero,i.size,i.bytes))=some (some a,m,b))(hz:a.cells=z.toArray)(hm:z.length=m)(o:b<=1000)(k:n<=1048576)(u:World):
 (Instr.makeSlice T (.int .i64 (n:Int)) (.int .i64 (n:Int))).run prog u=.ok (.slice (some ⟨u.heap.size,0,none⟩) n n) (u.alloc (.cells (zs z n).toArray e)):=by
 obtain⟨c,h0,g,f,d⟩:=info_parts l;have:b*n<=1000*1048576:=Nat.mul_le_mul o k;have h:=run_make (P:=prog) u T e c a j h0 g .i64 .i64 (n:Int) (n:Int) O0 (BF _) (by rw[d,<- Int.natCast_mul];omega) O0;rw[<- KL];simpa[f,hz,hm]using h
theorem lm(hf:∀x,(f x).length=m)(hz:z.length=m)(a:k<is.length):k*m+(f (is.getD k d)).length<=(gu is f z k).length/\Nr (gu is f z k) (k*m) (f (is.getD k d))=gu is f z (k+1):=by
 have b:((is.take k).flatMap f).length=k*z.length:=by rw[Gg hf,U_,Sr O0,hz]
 have h1:=zU (vs:=f (is.getD k d)) b ((hf _).trans hz.symm) a;have h2:=wQ (vs:=f (is.getD k d)) b ((hf _).trans hz.symm) a;rw[hz]at h1 h2;exact⟨h1,h2.trans (by unfold gu;rw[xJ (d:=d) a])⟩
theorem SK{l:List Value}(a:k<l.length):l.set k v=Nr l k [v]:=by
 unfold Nr;rw[List.set_eq_take_append_cons_drop,L8 a];simp
theorem Gm{LS:World->OA->List α->Prop}(hf:∀x,(f x).length=m)(k:∀u a is,vw u a is d m (λw b o x=>Bc w b o (f x))->LS u a is)(h:Cl w g t (gu is f z is.length)):Tt g w LS t m is (.slice (some ⟨g,0,none⟩) is.length is.length):=by
 unfold gu at h;rw[Ns,Xu]at h;have hl:=Gg hf is;exact⟨_,_,rfl,X7,(a2u h X7).imp (λu c=>⟨k _ _ _ (.inr ⟨g,0,rfl,c.lt,λi j=>aZ c (λq v e=>by
  have:q<m:=by have:=(Zi.1 e).1;rwa[hf]at this
  have:i*m+m<=is.length*m:=by rw[<- Tj];exact Io _ j
  rw[o9,G_ O0];exact Fh hf is i j q v e)⟩),g,_,rfl,X7,c,by rw[P9];omega⟩)⟩
def a0g(b:Nat)(w:World)(LS:World->OA->List α->Prop)(t:TypeId)(m j:Nat)(ti:TypeId)(c:Nat)(is:List α)(v:Value):Prop:=∃g cp,v=.slice (some ⟨g,0,none⟩) is.length cp/\Kp b w (λu=>LS u (some ⟨g,0,none⟩) is/\ax b u (some ⟨g,0,none⟩) t (is.length*m)/\InO u g is.length m j ti c)
theorem MK{f:α×Value->List Value}{ps:List (α×Value)}(hf:∀x,(f x).length=m)(hz:z.length=m)(c:ps.map Prod.fst=is.take k)(a:k<is.length)(v:Value):
 (ps++[(is.getD k d,v)]).map Prod.fst=is.take (k+1)/\k*m+(f (is.getD k d,v)).length<=(ps.flatMap f++zs z (is.length-k)).length/\Nr (ps.flatMap f++zs z (is.length-k)) (k*m) (f (is.getD k d,v))=(ps++[(is.getD k d,v)]).flatMap f++zs z (is.length-(k+1)):=by
 have hl:ps.length=k:=by have:=l7 List.length c;simp at this;omega
 have b:(ps.flatMap f).length=k*z.length:=by rw[Gg hf,hl,hz]
 have h1:=zU (vs:=f (is.getD k d,v)) b ((hf _).trans hz.symm) a;have h2:=wQ (vs:=f (is.getD k d,v)) b ((hf _).trans hz.symm) a;rw[hz]at h1 h2;refine⟨?_,h1,h2.trans (by rw[Qs,List.flatMap_singleton])⟩;rw[Rk,c,Yr,L9 a];simp[List.getD,L9 a]
theorem nM{LS:World->OA->List β->Prop}{RS:World->OA->List α->Prop}{inn:α->List β}{f:α×Value->List Value}{ps:List (α×Value)}(hf:∀x,(f x).length=m)(B:∀p,(f p)[j]?=some p.2)(A:∀i,(inn (is.getD i d)).length<=1048576)
 (hR:∀u g,g<u.heap.size->(∀i,i<is.length->∃a e,Bc u g (0+i*m) (f (is.getD i d,.slice a (inn (is.getD i d)).length e))/\LS u a (inn (is.getD i d)))->RS u (some ⟨g,0,none⟩) is)
 (n:ps.map Prod.fst=is.take is.length) (h:Cl w g t (ps.flatMap f++zs z (is.length-is.length))) (E:∀p∈ps,Tt (g+1) w LS ti c (inn p.1) p.2):a0g g w RS t m j ti c is (.slice (some ⟨g,0,none⟩) is.length is.length):=by
 rw[Ns]at n;have hl:ps.length=is.length:=by have:=l7 List.length n;simpa using this
 have C:Kp g w (λu=>Cl u g t (ps.flatMap f++zs z (is.length-is.length))/\∀i,i<is.length->∃a e,Bc u g (0+i*m) (f (is.getD i d,vL a (inn (is.getD i d)).length e))/\LS u a (inn (is.getD i d))/\ax (g+1) u a ti ((inn (is.getD i d)).length*c)):=λu h1 h2=>by
  have b:=(h2 g X7 h.lt).trans h;refine⟨b,λi k=>?_⟩;obtain⟨v,hv,hB⟩:=pW (d:=d) hf b (i:=i) O0;rw[n]at hv hB;obtain⟨H,F,r,_,o⟩:=E _ hv;dsimp only at r o;subst r;have D:=o u h1 (λq hq=>h2 q O0);exact⟨H,F,hB,D⟩
 refine⟨g,_,rfl,C.imp λu b=>⟨hR u g b.1.lt (λi k=>?_),⟨g,_,rfl,X7,b.1,?_⟩,λi k=>?_⟩⟩
 ·obtain⟨a,e,l,y,_⟩:=b.2 i k;exact⟨a,e,l,y⟩
 ·rw[P9,Gg hf,hl];omega
 obtain⟨a,e,l,_,s⟩:=b.2 i k;exact⟨a,_,e,by have:=l j _ (B _);rwa[o9]at this,A i,s⟩
end
end Go.Proofs.YtkccjgajimjjdaaGreatDoor
namespace Go.Proofs.YtkccjgajimjjdaaGreatDoor
open Proofs.Tryz Go.RowKit
def mB(i:Int):Value:=.bool (i%3==0)
def fk(l:List (Int->Value))(j:Nat)(i:Int):Value:=(l.getD (j%l.length) mT) i
def Rw(A B:Nat)(w:World)(t:TypeId)(m:Nat)(v:Value)(n:Nat):Prop:=∃a c,v=.slice a n c/\(n=0\/∃g xs,a=some ⟨g,0,none⟩/\A<=g/\g<B/\Cl w g t xs/\n*m<=xs.length)
def Mf(w:World)(t:TypeId)(l:List (Int->Value))(K:Int)(v:Value)(n:Nat):Prop:=∃a c,v=.slice a n c/\(n=0\/∃g ys,a=some ⟨g,0,none⟩/\Cl w g t ys/\∀j,j<n*l.length->ys[j]?=some (fk l j (K+(j:Int))))
section
variable{A B A' B' n m L:Nat}{w w':World}{t:TypeId}{v:Value}{l:List (Int->Value)}{K:Int}{S:List TypeId}{xs:List Value}
theorem Mf.keep(h:Mf w t l K v n)(k:∀g ys,v.ownBlock=some g->Cl w g t ys->w'.heap[g]?=w.heap[g]?):Mf w' t l K v n:=by
 obtain⟨a,c,e,h⟩:=h;exact⟨a,c,e,h.imp id λ⟨g,ys,b,h1,h2⟩=>⟨g,ys,b,(k g ys (by rw[e,b];rfl) h1).trans h1,h2⟩⟩
theorem Mf.below(h:Mf w t l K v n)(k:Bw w w'):Mf w' t l K v n:=h.keep (λg _ _ C=>k.block g C.lt)
theorem Mf.md(h:Mf w t l K v n)(k:Md A B S w w')(ht:t∉S):Mf w' t l K v n:=h.keep (λg ys _ C=>k.ty g t ys C ht)
theorem Rw.md(h:Rw A B w t m v n)(k:Md A' B' S w w'):Rw A B w' t m v n:=by
 obtain⟨a,c,e,h⟩:=h;refine⟨a,c,e,h.imp id λ⟨g,xs,e,h1,h2,C,hl⟩=>?_⟩;obtain⟨ys,l,b⟩:=k.sh g t xs C;exact⟨g,ys,e,h1,h2,b,by omega⟩
theorem Rw.mono(h:Rw A B w t m v n)(h1:A'<=A)(h2:B<=B'):Rw A' B' w t m v n:=by
 obtain⟨a,c,e,h⟩:=h;exact⟨a,c,e,h.imp id λ⟨g,xs,e,k1,k2,b⟩=>⟨g,xs,e,by omega,by omega,b⟩⟩
theorem Rw.one(h:Rw A B w t m v n)(f:A<=B):∃A' B',Rw A' B' w t m v n/\A<=A'/\B'<=B/\∀q,A'<=q->q<B'->v.ownBlock=some q:=by
 obtain⟨a,c,e,h|⟨g,xs,e1,d,k2,b⟩⟩:=h
 ·exact⟨B,B,⟨a,c,e,.inl h⟩,f,X7,λq h1 h2=>absurd h1 (by omega)⟩
 exact⟨g,g+1,⟨a,c,e,.inr ⟨g,xs,e1,X7,Dl _,b⟩⟩,d,by omega,λq h1 h2=>by rw[e,e1];exact l7 some (show g=q by omega)⟩
theorem Ow.rw_{a:OA}{c:Nat}(h:Ow A B w a t (n*m)):Rw A B w t m (.slice a n c) n:=by
 obtain⟨g,xs,h1,h2,e,d,b⟩:=h;exact⟨a,c,rfl,.inr ⟨g,xs,h1,h2,e,d,b⟩⟩
theorem own_rw{e:TypeId}(h:w.ownsRow A e m v n xs)(hB:w.heap.size<=B):Rw A B w e m v n:=by
 rcases h.2 with⟨hv,h0⟩|⟨g,cap,cur,hv,d,a,b,_,c,_⟩
 ·exact⟨none,0,by rw[hv,h0],.inl h0⟩
 refine⟨some ⟨g,0,none⟩,cap,hv,.inr ⟨g,cur.toList,rfl,d,Nat.lt_of_lt_of_le (Array.getElem?_eq_some_iff.1 a).1 hB,by unfold Cl;rw[a],?_⟩⟩;rw[Zw,c];exact Io _ b
end
theorem pk{l:List (Int->Value)}{f:Int->Value}{K X:Int}{k:Nat}(r:Nat)(hr:r<l.length:=by decide)(hf:l.getD r mT=f:=by rfl)(hx:X=K+((k*l.length+r:Nat):Int):=by simp only[u_,Td];omega):f X=fk l (k*l.length+r) (K+((k*l.length+r:Nat):Int)):=by
 subst hx;unfold fk;rw[show(k*l.length+r)%l.length=r by rw[bG,Nat.mul_add_mod,Nat.mod_eq_of_lt hr],hf]
theorem pk1{l:List (Int->Value)}{f:Int->Value}{K:Int}{k:Nat}(hl:l.length=1:=by rfl)(hf:l.getD 0 mT=f:=by rfl):f (K+(k:Int))=fk l k (K+(k:Int)):=by
 unfold fk;rw[hl,Nat.mod_one,hf]
theorem pk3{l:List (Int->Value)}{K:Int}{k:Nat}(hl:l.length=3:=by rfl)(hf:l.getD 0 mT=mB:=by rfl):mB K=fk l (k*l.length+0) (K+((k*l.length+0:Nat):Int)):=by
 rw[<- pk (l:=l) (f:=mB) (K:=K) (k:=k) 0 (by omega) hf rfl];unfold mB;rw[hl,show(K+((k*3+0:Nat):Int))%3=K%3 from by omega]
def Pt(w:World)(g:Nat)(t:TypeId)(l:List (Int->Value))(K:Int)(p L:Nat):Prop:=∃ys,Cl w g t ys/\L<=ys.length/\∀j,j<p->ys[j]?=some (fk l j (K+(j:Int)))
def Pz(A B:Nat)(w:World)(a:OA)(t:TypeId)(l:List (Int->Value))(K:Int)(k n:Nat):Prop:=n=0\/∃g,a=some ⟨g,0,none⟩/\(A<=g/\g<B)/\Pt w g t l K (k*l.length) (n*l.length)
section
variable{A B g k n p L m c:Nat}{w w0 w' w1:World}{a:OA}{t:TypeId}{l:List (Int->Value)}{K:Int}{S:List TypeId}
theorem LC(h:n=0\/∃g xs,a=some ⟨g,0,none⟩/\A<=g/\g<B/\Cl w g t xs/\n*l.length<=xs.length):Pz A B w a t l K 0 n:=h.imp id λ⟨g,xs,e,h1,h2,C,hl⟩=>⟨g,e,⟨h1,h2⟩,xs,C,hl,λj h=>absurd h (by omega)⟩
theorem Pz.pos(h:Pz A B w a t l K k n)(hk:k<n):∃g,a=some ⟨g,0,none⟩/\(A<=g/\g<B)/\Pt w g t l K (k*l.length+0) (n*l.length):=h.resolve_left (by omega)
theorem Pt.next(h:Pt w g t l K p (n*l.length))(a:A<=g/\g<B)(e:p=(k+1)*l.length:=by simp only[u_,Td];omega):Pz A B w (some ⟨g,0,none⟩) t l K (k+1) n:=.inr ⟨g,rfl,a,e▸h⟩
theorem Pz.fin(h:Pz A B w a t l K n n):Mf w t l K (.slice a n c) n:=⟨a,c,rfl,h.imp id λ⟨g,e,_,ys,h1,_,b⟩=>⟨g,ys,e,h1,b⟩⟩
theorem Pt.below(h:Pt w g t l K p L)(b:Bw w w'):Pt w' g t l K p L:=h.imp λys ⟨c,r⟩=>⟨c.below b c.lt,r⟩
theorem ql{P:Program}{ops:Array Oper}{Q:Exit->Act->World->Prop}{rest:List Oper}{o:Oper}{a:Act}(h:o.guard=none)(ty:TypeId)(x y:Operand)(ho:o.op=.store ty x y)(hx:a.eval x=.pointer (some ⟨g,p,none⟩)){v:Value}(c:a.eval y=v)(f:(P.info? ty).map (·.size)=some 1)(H:Pt w g t l K p L)(hp:p<L)(hv:v=fk l p (K+(p:Int)))(M:Md A B S w0 w)(hA:A<=g/\g<B)(ht:t∈S)(h1:v.oneCell'=true:=by rfl)
 (i:∀w',Hid (Pt w' g t l K (p+1) L)->Hid (Md A B S w0 w')->wpList P ops Q rest (a.put o.dst undef) w'):wpList P ops Q (o::rest) a w:=by
 obtain⟨ys,C,hl,D⟩:=H;have d:p<ys.length:=by omega
 refine Cc h ty x y ho hx (c▸h1) f C d ?_;intro w' b O;rw[c]at b;exact i _ ⟨_,b.out,by rw[qj];exact hl,λj hj=>by
  by_cases e:j=p
  ·subst e;rw[Po d,hv]
  rw[H_ (Ym e)];exact D j (by omega)⟩ (M.on hA.1 hA.2 ht O C b.out)
end
end Go.Proofs.YtkccjgajimjjdaaGreatDoor
namespace Go.Proofs
open Go.Shelf
def Tryz.fE : Go.Shelf.Ren:=⟨λ| 171=>162|243=>213|246=>256|283=>293|284=>294|285=>295|286=>296|129=>311|317=>310|318=>312|319=>313|320=>314|337=>342|338=>343|n=>n, λ| 3=>3|9=>9|2=>2|4=>4|171=>379|0=>0|53=>338|37=>181|5=>5|173=>382|212=>395|51=>358|20=>20|213=>396|46=>314|232=>426|233=>427|n=>n, λ| 17=>9|18=>10|19=>11|n=>n⟩
theorem Tryz.laysM171 : Go.Proofs.LaysM.n171 Tryz.prog Tryz.fE := {
  mixed:=by kernel_rfl
  f129:=Tryz.func311.trans (l7 some (by kernel_rfl))
  f171:=Tryz.func162.trans (l7 some (by kernel_rfl))
  f243:=Tryz.func213.trans (l7 some (by kernel_rfl))
  f246:=Tryz.func256.trans (l7 some (by kernel_rfl))
  f283:=Tryz.func293.trans (l7 some (by kernel_rfl))
  f284:=Tryz.func294.trans (l7 some (by kernel_rfl))
  f285:=Tryz.func295.trans (l7 some (by kernel_rfl))
  f286:=Tryz.func296.trans (l7 some (by kernel_rfl))
  f317:=Tryz.func310.trans (l7 some (by kernel_rfl))
  f318:=Tryz.func312.trans (l7 some (by kernel_rfl))
  f319:=Tryz.func313.trans (l7 some (by kernel_rfl))
  f320:=Tryz.func314.trans (l7 some (by kernel_rfl))
  f337:=Tryz.func342.trans (l7 some (by kernel_rfl))
  f338:=Tryz.func343.trans (l7 some (by kernel_rfl))
  t0:=Tryz.underlying0
  a0:=Tryz.isAgg0
  z0:=Tryz.sizeOf0
  v0:=Tryz.zeroValue0
  t2:=Tryz.underlying2
  a2:=Tryz.isAgg2
  z2:=Tryz.sizeOf2
  v2:=Tryz.zeroValue2
  t3:=Tryz.underlying3
  a3:=Tryz.isAgg3
  z3:=Tryz.sizeOf3
  v3:=Tryz.zeroValue3
  t4:=Tryz.underlying4
  a4:=Tryz.isAgg4
  z4:=Tryz.sizeOf4
  v4:=Tryz.zeroValue4
  t5:=Tryz.underlying5
  a5:=Tryz.isAgg5
  z5:=Tryz.sizeOf5
  v5:=Tryz.zeroValue5
  t9:=Tryz.underlying9
  a9:=Tryz.isAgg9
  z9:=Tryz.sizeOf9
  v9:=Tryz.zeroValue9
  t20:=Tryz.underlying20
  a20:=Tryz.isAgg20
  z20:=Tryz.sizeOf20
  v20:=Tryz.zeroValue20
  t37:=Tryz.underlying181
  a37:=Tryz.isAgg181
  z37:=Tryz.sizeOf181
  v37:=Tryz.zeroValue181
  t46:=Tryz.underlying314
  a46:=Tryz.isAgg314
  z46:=Tryz.sizeOf314
  v46:=Tryz.zeroValue314
  t51:=Tryz.underlying358
  a51:=Tryz.isAgg358
  z51:=Tryz.sizeOf358
  v51:=Tryz.zeroValue358
  t53:=Tryz.underlying338
  a53:=Tryz.isAgg338
  z53:=Tryz.sizeOf338
  v53:=Tryz.zeroValue338
  t171:=Tryz.underlying379
  a171:=Tryz.isAgg379
  z171:=Tryz.sizeOf379
  v171:=Tryz.zeroValue379
  t173:=Tryz.underlying382
  a173:=Tryz.isAgg382
  z173:=Tryz.sizeOf382
  v173:=Tryz.zeroValue382
  t212:=Tryz.underlying395
  a212:=Tryz.isAgg395
  z212:=Tryz.sizeOf395
  v212:=Tryz.zeroValue395
  t213:=Tryz.underlying396
  a213:=Tryz.isAgg396
  z213:=Tryz.sizeOf396
  t232:=Tryz.underlying426
  a232:=Tryz.isAgg426
  z232:=Tryz.sizeOf426
  v232:=Tryz.zeroValue426
  t233:=Tryz.underlying427
  a233:=Tryz.isAgg427
  z233:=Tryz.sizeOf427
  v233:=Tryz.zeroValue427
  g17:=by kernel_rfl
  g18:=by kernel_rfl
  g19:=by kernel_rfl
  i0:=by kernel_rfl
  i2:=by kernel_rfl
  i3:=by kernel_rfl
  i4:=by kernel_rfl
  i5:=by kernel_rfl
  i9:=by kernel_rfl
  i20:=by kernel_rfl
  i37:=by kernel_rfl
  i46:=by kernel_rfl
  i51:=by kernel_rfl
  i53:=by kernel_rfl
  i171:=by kernel_rfl
  i173:=by kernel_rfl
  i212:=by kernel_rfl
  i232:=by kernel_rfl
  i233:=by kernel_rfl
  m17:=by kernel_rfl
  m18:=by kernel_rfl
  m19:=by kernel_rfl }
open Go.RowKit Go.Sort Go.Lib in
theorem Tryz.strconv_Itoa (n : Int) (h0 : -9223372036854775808 ≤ n) (h1 : n ≤ 9223372036854775807) (w : World) (htab : Lib.TabIs Tryz.prog w "internal/strconv.uint64pow10" .u64 Lib.pow10Tab) :
    Calls Tryz.prog 162 #[.int .i64 n] w λe w'=>e=.returned (.string ⟨(Lib.itoa n).toArray⟩) ∧ ∃k os, w'=grow (w.drewN k) os:=Any.strconv_Itoa Tryz.laysM171 n h0 h1 w htab
end Go.Proofs
namespace Go.Proofs.YtkccjgajimjjdaaGreatDoor
open Proofs.Tryz Go.RowKit
def zY:List Value->Nat->List Value->List Value
 | xs,_,[]=>xs
 | xs,j,v::vs=>zY (xs.set j v) (j+1) vs
theorem Cl.WY{B:Nat}{t:TypeId}:∀(vs:List Value){w:World}{xs:List Value}{j:Nat},Cl w B t xs->Cl (fill w B j vs) B t (zY xs j vs)
 | [],_,_,_,h=>h
 | v::vs,_,_,j,h=>Cl.WY vs (h.set j v)
section
variable{P:Program}{ops:Array Oper}{Q:Exit->Act->World->Prop}{rest:List Oper}{o:Oper}{a:Act}{w V:World}{ta tr:TypeId}{ar zs xs:List Value}{R:World->Prop}
theorem Qe(H:TB w ta tr ar zs xs R V)(g:o.guard=none)(ty:TypeId)(x y:Operand)(ho:o.op=.store ty x y){j:Nat}{xs':List Value}(v:Value)(hx:a.eval x=.pointer (some ⟨w.heap.size+1+1,j,none⟩))(c:a.eval y=v)(hv:v.oneCell'=true)(e:j<xs.length)(f:(P.info? ty).map (·.size)=some 1)
 (h:∀b,Hid (TB w ta tr ar zs xs' R b)->wpList P ops Q rest (a.put o.dst undef) b) (d:xs.set j v=xs':=by simp only[List.set_cons_zero,List.set_cons_succ]<;>rfl):wpList P ops Q (o::rest) a V:=by
 subst c d;exact PE g (Il ty x y ho hx hv ⟨xs[j],by rw[H.co.cell,L9 e]⟩ (H.co.opn j) f) (h _ (H.put j _))
theorem WG(H:TB w ta tr ar zs xs R V)(f:o.guard=none)(ty:TypeId)(x y:Operand)(ho:o.op=.store ty x y){j:Nat}{xs':List Value}(vs:List Value)(hx:a.eval x=.pointer (some ⟨w.heap.size+1+1,j,none⟩))(c:a.eval y=.agg vs.toArray)(hl:j+vs.length<=xs.length)(hv:vs.all Value.oneCell'=true)(e:(P.info? ty).map (·.size)=some vs.length)
 (g:∀b,Hid (TB w ta tr ar zs xs' R b)->wpList P ops Q rest (a.put o.dst undef) b) (d:zY xs j vs=xs':=by simp only[zY,List.set_cons_zero,List.set_cons_succ]<;>rfl):wpList P ops Q (o::rest) a V:=by
 subst d;exact PE f (GI ty x y ho hx c H.co hl (Y5 hv) e) (g _ (H.on (rF _ _ _ _) (Cl.WY vs H.co)))
theorem xA(H:TB w ta tr ar zs xs R V)(f:o.guard=none)(ty:TypeId)(x:Operand)(ho:o.op=.load ty x)(cs:List Value){d:TypeDesc}(hx:a.eval x=.pointer (some ⟨w.heap.size+1+1,0,none⟩))(hc:xs=cs)(b:P.underlying ty=some d)(hd:(match d with | .struct _ | .array _ _=>true|_=>false)=true)(c:(P.info? ty).map (·.size)=some cs.length)(g:wpList P ops Q rest (a.put o.dst (.agg cs.toArray)) V):wpList P ops Q (o::rest) a V:=by
 subst hc;exact Vb f (d_ ty x ho hx (λq v e=>by rw[o9];exact(H.co.cell q).trans e) b hd c) g
theorem XA(H:TB w ta tr ar zs xs R V)(g:o.guard=none)(ty:TypeId)(x y:Operand)(ho:o.op=.store ty x y)(vs:List Value)(hx:a.eval x=.pointer (some ⟨w.heap.size+1,0,none⟩))(d:a.eval y=.agg vs.toArray)(hl:vs.length=zs.length)(hv:vs.all Value.oneCell'=true)(f:(P.info? ty).map (·.size)=some vs.length)
 (h:∀z,U6 z (w.heap.size+1) vs->Kp w.heap.size z R->Bw w z->wpList P ops Q rest (a.put o.dst undef) z):wpList P ops Q (o::rest) a V:=
 I7 g ty x y ho hx d H.cr O0 (Y5 hv) f (λz c b=>h z (by
  have e:Nr zs 0 vs=vs:=by unfold Nr;rw[Nat.zero_add,hl];simp
  rw[e]at c;exact c.blk) (H.end_ b).1 (H.end_ b).2)
end
theorem c82(x:Jb)(w:World):
 Calls prog 82 #[.agg #[.string x.nm,.int .i64 x.wk,.int .i64 x.un]] w λe w'=>e=.returned (.agg #[.string x.nm,.int .i64 x.wk,.int .i64 x.un])/\Bw w w':=by
 go_in
 go_wp2;refine Q7 (v:=.agg #[.string x.nm,.int .i64 x.wk,.int .i64 x.un]) (by simp[results,results82,go_sem]) rfl ⟨rfl,?_⟩;exact((Y6.alloc E5 _).alloc Q8 _)
theorem c29(a:OA)(cap:Nat)(is:List Jb)(w:World)(hl:is.length<=1048576)(q:ak w a is):
 Calls prog 29 #[.slice a is.length cap] w λe w'=>(∃v,e=.returned v/\Tt w.heap.size w' ak 127 3 is v)/\Bw w w':=by
 obtain⟨b,off,hc⟩:=Na q;have y:=U0 hc;clear hc q;have hmk:=Qx (z:=[.string ⟨#[]⟩,.int .i64 0,.int .i64 0]) underlying45 (show(prog.info? 127).map (λi=>(i.zero,i.size,i.bytes))=some (some (.agg #[.string ⟨#[]⟩,.int .i64 0,.int .i64 0]),3,32) from Y1) rfl rfl Z5 hl
 go_in
 go_wp2;go_loopw[4] (λi wr=>∃(k:Nat),k<=is.length/\i=.int .i64 k/\Below w.heap.size w wr/\Hid (Cl wr w.heap.size 127 (gu is yC [.string ⟨#[]⟩,.int .i64 0,.int .i64 0] k))) (λi _=>is.length-(RowKit.intOf i).toNat);exact⟨0,J4 _,rfl,Y6,X4 _ _ _⟩;obtain⟨k,hk,rfl,g,hc⟩:=hrel;by_cases c:k<is.length;rotate_left
 ·obtain rfl:k=is.length:=O0;have hd:Hid (Tt w.heap.size wr ak 127 3 is _):=Gm (d:=ve) (λ_=>rfl) (λ_ _ _ h=>h) hc.out;go_wp2;go_ret;exact⟨⟨_,rfl,hd.out⟩,g⟩
 obtain⟨ha,s,o⟩:=Jd y.out c;subst ha;have A:=U0 ((o k c).below s g);have r:=U0 (lm (d:=ve) (z:=[.string ⟨#[]⟩,.int .i64 0,.int .i64 0]) (f:=yC) (m:=3) (λ_=>rfl) rfl c);generalize is.getD k ve=x at*;clear o
 go_wp2_with(refine Vb rfl (d_ 103 _ rfl (B:=b) (j:=off+k*3) (cs:=yC x) rfl A.out underlying103 rfl Y1) ?_)
 refine(c82 x wr).mono ?_;rintro e w1⟨rfl,p⟩;have t:=J5 g p;have u:=U0 (hc.out.below p hc.out.lt)
 go_wp2_with(refine I7 rfl 127 _ _ rfl (B:=w.heap.size) (j:=k*3) rfl (vs:=yC x) rfl u.out r.out.1 (Y5 rfl) Y1 ?_;intro z l n;rw[r.out.2]at l;have C:=U0 l;have bz:=t.trans (n.below X7);clear l n)
 go_roundw;exact⟨k+1,O0,by go_num,bz,C⟩;exact Z9
theorem a4z(x:T.F2)(w:World):
 Calls prog 133 #[.agg #[.string x.nm,.string x.tx]] w λe w'=>e=.returned (.agg #[.string x.nm,.string x.tx])/\Bw w w':=by
 go_in
 go_wp2;refine Q7 (v:=.agg #[.string x.nm,.string x.tx]) (by simp[results,results133,go_sem]) rfl ⟨rfl,?_⟩;exact((Y6.alloc E5 _).alloc Q8 _)
theorem c79(a:OA)(cap:Nat)(is:List T.F2)(w:World)(hl:is.length<=1048576)(q:dN w a is):
 Calls prog 79 #[.slice a is.length cap] w λe w'=>(∃v,e=.returned v/\Tt w.heap.size w' dN 67 2 is v)/\Bw w w':=by
 obtain⟨b,off,hc⟩:=Na q;have y:=U0 hc;clear hc q;have hmk:=Qx (z:=[.string ⟨#[]⟩,.string ⟨#[]⟩]) underlying38 (show(prog.info? 67).map (λi=>(i.zero,i.size,i.bytes))=some (some (.agg #[.string ⟨#[]⟩,.string ⟨#[]⟩]),2,32) from Y1) rfl rfl Z5 hl
 go_in
 go_wp2;go_loopw[4] (λi wr=>∃(k:Nat),k<=is.length/\i=.int .i64 k/\Below w.heap.size w wr/\Hid (Cl wr w.heap.size 67 (gu is fiE [.string ⟨#[]⟩,.string ⟨#[]⟩] k))) (λi _=>is.length-(RowKit.intOf i).toNat);exact⟨0,J4 _,rfl,Y6,X4 _ _ _⟩;obtain⟨k,hk,rfl,g,hc⟩:=hrel;by_cases c:k<is.length;rotate_left
 ·obtain rfl:k=is.length:=O0;have hd:Hid (Tt w.heap.size wr dN 67 2 is _):=Gm (d:=T.G9) (λ_=>rfl) (λ_ _ _ h=>h) hc.out;go_wp2;go_ret;exact⟨⟨_,rfl,hd.out⟩,g⟩
 obtain⟨ha,s,o⟩:=Jd y.out c;subst ha;have A:=U0 ((o k c).below s g);have r:=U0 (lm (d:=T.G9) (z:=[.string ⟨#[]⟩,.string ⟨#[]⟩]) (f:=fiE) (m:=2) (λ_=>rfl) rfl c);generalize is.getD k T.G9=x at*;clear o
 go_wp2_with(refine Vb rfl (d_ 152 _ rfl (B:=b) (j:=off+k*2) (cs:=fiE x) rfl A.out underlying152 rfl Y1) ?_)
 refine(a4z x wr).mono ?_;rintro e w1⟨rfl,p⟩;have t:=J5 g p;have u:=U0 (hc.out.below p hc.out.lt)
 go_wp2_with(refine I7 rfl 67 _ _ rfl (B:=w.heap.size) (j:=k*2) rfl (vs:=fiE x) rfl u.out r.out.1 (Y5 rfl) Y1 ?_;intro z l n;rw[r.out.2]at l;have C:=U0 l;have bz:=t.trans (n.below X7);clear l n)
 go_roundw;exact⟨k+1,O0,by go_num,bz,C⟩;exact Z9
def FQ(w:World)(a:OA)(is:List G3):Prop:=vw w a is zh 3 λw b o x=>Bc w b o (wP x)
theorem XV{w:World}{a:OA}{is:List G3}(h:R_ w a is):FQ w a is:=by
 rcases h with h|⟨b,off,h1,h2,d⟩
 ·exact .inl h
 refine .inr ⟨b,off,h1,h2,λi c q v e=>?_⟩
 match q,e with
 | 0,e=>cases e;exact(d i c).1
 | 1,e=>cases e;exact(d i c).2.1
 | 2,e=>cases e;exact(d i c).2.2
theorem GV{w:World}{a:OA}{is:List G3}(h:FQ w a is):R_ w a is:=by
 rcases h with h|⟨b,off,h1,h2,d⟩
 ·exact .inl h
 exact .inr ⟨b,off,h1,h2,λi c=>⟨d i c 0 _ rfl,d i c 1 _ rfl,d i c 2 _ rfl⟩⟩
theorem a3E(x:G3)(w:World):
 Calls prog 221 #[.agg #[.bool x.nm,.string x.tl,.string x.ar]] w λe w'=>e=.returned (.agg #[.bool x.nm,.string x.tl,.string x.ar])/\Bw w w':=by
 go_in
 go_wp2;refine Q7 (v:=.agg #[.bool x.nm,.string x.tl,.string x.ar]) (by simp[results,results221,go_sem]) rfl ⟨rfl,?_⟩;exact((Y6.alloc E5 _).alloc Q8 _)
theorem a5q(a:OA)(cap:Nat)(is:List G3)(w:World)(hl:is.length<=1048576)(q:FQ w a is):
 Calls prog 181 #[.slice a is.length cap] w λe w'=>(∃v,e=.returned v/\Tt w.heap.size w' FQ 213 3 is v)/\Bw w w':=by
 obtain⟨b,off,hc⟩:=Na q;have y:=U0 hc;clear hc q;have hmk:=Qx (z:=[.bool false,.string ⟨#[]⟩,.string ⟨#[]⟩]) underlying160 (show(prog.info? 213).map (λi=>(i.zero,i.size,i.bytes))=some (some (.agg #[.bool false,.string ⟨#[]⟩,.string ⟨#[]⟩]),3,40) from Y1) rfl rfl Z5 hl
 go_in
 go_wp2;go_loopw[4] (λi wr=>∃(k:Nat),k<=is.length/\i=.int .i64 k/\Below w.heap.size w wr/\Hid (Cl wr w.heap.size 213 (gu is wP [.bool false,.string ⟨#[]⟩,.string ⟨#[]⟩] k))) (λi _=>is.length-(RowKit.intOf i).toNat);exact⟨0,J4 _,rfl,Y6,X4 _ _ _⟩;obtain⟨k,hk,rfl,g,hc⟩:=hrel;by_cases c:k<is.length;rotate_left
 ·obtain rfl:k=is.length:=O0;have hd:Hid (Tt w.heap.size wr FQ 213 3 is _):=Gm (d:=zh) (λ_=>rfl) (λ_ _ _ h=>h) hc.out;go_wp2;go_ret;exact⟨⟨_,rfl,hd.out⟩,g⟩
 obtain⟨ha,s,o⟩:=Jd y.out c;subst ha;have A:=U0 ((o k c).below s g);have r:=U0 (lm (d:=zh) (z:=[.bool false,.string ⟨#[]⟩,.string ⟨#[]⟩]) (f:=wP) (m:=3) (λ_=>rfl) rfl c);generalize is.getD k zh=x at*;clear o
 go_wp2_with(refine Vb rfl (d_ 282 _ rfl (B:=b) (j:=off+k*3) (cs:=wP x) rfl A.out underlying282 rfl Y1) ?_)
 refine(a3E x wr).mono ?_;rintro e w1⟨rfl,p⟩;have t:=J5 g p;have u:=U0 (hc.out.below p hc.out.lt)
 go_wp2_with(refine I7 rfl 213 _ _ rfl (B:=w.heap.size) (j:=k*3) rfl (vs:=wP x) rfl u.out r.out.1 (Y5 rfl) Y1 ?_;intro z l n;rw[r.out.2]at l;have C:=U0 l;have bz:=t.trans (n.below X7);clear l n)
 go_roundw;exact⟨k+1,O0,by go_num,bz,C⟩;exact Z9
def mQ(w:World)(a:OA)(is:List L4):Prop:=vw w a is M_ 4 λw b o x=>Bc w b o (ny x)
theorem EY{w:World}{a:OA}{is:List L4}(h:S9 w a is):mQ w a is:=by
 rcases h with h|⟨b,off,h1,h2,d⟩
 ·exact .inl h
 refine .inr ⟨b,off,h1,h2,λi c q v e=>?_⟩
 match q,e with
 | 0,e=>cases e;exact(d i c).1
 | 1,e=>cases e;exact(d i c).2.1
 | 2,e=>cases e;exact(d i c).2.2.1
 | 3,e=>cases e;exact(d i c).2.2.2
theorem NY{w:World}{a:OA}{is:List L4}(h:mQ w a is):S9 w a is:=by
 rcases h with h|⟨b,off,h1,h2,d⟩
 ·exact .inl h
 exact .inr ⟨b,off,h1,h2,λi c=>⟨d i c 0 _ rfl,d i c 1 _ rfl,d i c 2 _ rfl,d i c 3 _ rfl⟩⟩
theorem a2H(cd:Int)(tx:BY)(w:World):
 Calls prog 136 #[.agg #[.int .i64 cd,.string tx]] w λe w'=>e=.returned (.agg #[.int .i64 cd,.string tx])/\Bw w w':=by
 go_in
 go_wp2;refine Q7 (v:=.agg #[.int .i64 cd,.string tx]) (by simp[results,results136,go_sem]) rfl ⟨rfl,?_⟩;exact((Y6.alloc E5 _).alloc Q8 _)
theorem c182(x:L4)(w:World):
 Calls prog 182 #[.agg #[.bool x.has,.string x.nm,.int .i64 x.cd,.string x.tx]] w λe w'=>e=.returned (.agg #[.bool x.has,.string x.nm,.int .i64 x.cd,.string x.tx])/\Bw w w':=by
 go_in
 go_upto_region 2 with fail
 have H:=U0 (Nj (w:=w) (ta:=221) (tr:=138) (ar:=[.bool x.has,.string x.nm,.int .i64 x.cd,.string x.tx]) (zs:=[.bool false,.string ⟨#[]⟩,.int .i64 0,.string ⟨#[]⟩]));generalize ((w.alloc (.cells #[.bool x.has,.string x.nm,.int .i64 x.cd,.string x.tx] 221)).alloc (.cells #[.bool false,.string ⟨#[]⟩,.int .i64 0,.string ⟨#[]⟩] 138)).alloc (.cells #[.bool false,.string ⟨#[]⟩,.int .i64 0,.string ⟨#[]⟩] 138)=V at*
 go_wp2_with(first|(refine H8 H.out.ca rfl 98 _ rfl (j:=2) [.int .i64 x.cd,.string x.tx] rfl rfl underlying98 rfl Y1 ?_)|(refine N8 H.out.ca rfl _ _ rfl rfl rfl Y1 ?_)|(refine Qe H.out rfl 4 _ _ rfl (j:=0) (.bool x.has) rfl rfl rfl (Cb rfl) Y1 ?_;clear H;intro V H)|(refine Qe H.out rfl 9 _ _ rfl (j:=1) (.string x.nm) rfl rfl rfl (Cb rfl) Y1 ?_;clear H;intro V H))
 refine(a2H x.cd x.tx V).mono ?_;rintro e V1⟨rfl,a⟩
 replace H:=U0 (H.out.call a (Q:=λ_=>True) (λ_ _ _=>trivial))
 go_wp2_with(first|(refine N8 H.out.ca rfl _ _ rfl rfl rfl Y1 ?_)|(refine WG H.out rfl 72 _ _ rfl (j:=2) [.int .i64 x.cd,.string x.tx] rfl rfl (Cb rfl) rfl Y1 ?_;clear H;intro V H)|(refine xA H.out rfl 138 _ rfl [.bool x.has,.string x.nm,.int .i64 x.cd,.string x.tx] rfl rfl underlying138 rfl Y1 ?_)|(refine XA H.out rfl 138 _ _ rfl [.bool x.has,.string x.nm,.int .i64 x.cd,.string x.tx] rfl rfl rfl rfl Y1 ?_;clear H;intro z b hk a))
 exact Q7 (J7 (P:=prog) (ty:=138) rfl _ z (w.heap.size+1) [.bool x.has,.string x.nm,.int .i64 x.cd,.string x.tx] _ rfl b underlying138 rfl Y1) rfl ⟨rfl,a⟩
theorem a4i(a:OA)(cap:Nat)(is:List L4)(w:World)(hl:is.length<=1048576)(q:mQ w a is):
 Calls prog 135 #[.slice a is.length cap] w λe w'=>(∃v,e=.returned v/\Tt w.heap.size w' mQ 138 4 is v)/\Bw w w':=by
 obtain⟨b,off,hc⟩:=Na q;have y:=U0 hc;clear hc q;have hmk:=Qx (z:=[.bool false,.string ⟨#[]⟩,.int .i64 0,.string ⟨#[]⟩]) underlying70 (show(prog.info? 138).map (λi=>(i.zero,i.size,i.bytes))=some (some (.agg #[.bool false,.string ⟨#[]⟩,.int .i64 0,.string ⟨#[]⟩]),4,48) from Y1) rfl rfl Z5 hl
 go_in
 go_wp2;go_loopw[4] (λi wr=>∃(k:Nat),k<=is.length/\i=.int .i64 k/\Below w.heap.size w wr/\Hid (Cl wr w.heap.size 138 (gu is ny [.bool false,.string ⟨#[]⟩,.int .i64 0,.string ⟨#[]⟩] k))) (λi _=>is.length-(RowKit.intOf i).toNat);exact⟨0,J4 _,rfl,Y6,X4 _ _ _⟩;obtain⟨k,hk,rfl,g,hc⟩:=hrel;by_cases c:k<is.length;rotate_left
 ·obtain rfl:k=is.length:=O0;have hd:Hid (Tt w.heap.size wr mQ 138 4 is _):=Gm (d:=M_) (λ_=>rfl) (λ_ _ _ h=>h) hc.out;go_wp2;go_ret;exact⟨⟨_,rfl,hd.out⟩,g⟩
 obtain⟨ha,s,o⟩:=Jd y.out c;subst ha;have A:=U0 ((o k c).below s g);have r:=U0 (lm (d:=M_) (z:=[.bool false,.string ⟨#[]⟩,.int .i64 0,.string ⟨#[]⟩]) (f:=ny) (m:=4) (λ_=>rfl) rfl c);generalize is.getD k M_=x at*;clear o
 go_wp2_with(refine Vb rfl (d_ 221 _ rfl (B:=b) (j:=off+k*4) (cs:=ny x) rfl A.out underlying221 rfl Y1) ?_)
 refine(c182 x wr).mono ?_;rintro e w1⟨rfl,p⟩;have t:=J5 g p;have u:=U0 (hc.out.below p hc.out.lt)
 go_wp2_with(refine I7 rfl 138 _ _ rfl (B:=w.heap.size) (j:=k*4) rfl (vs:=ny x) rfl u.out r.out.1 (Y5 rfl) Y1 ?_;intro z l n;rw[r.out.2]at l;have C:=U0 l;have bz:=t.trans (n.below X7);clear l n)
 go_roundw;exact⟨k+1,O0,by go_num,bz,C⟩;exact Z9
theorem a4d(a:OA)(cap:Nat)(is:List Int)(w:World)(hl:is.length<=1048576)(q:Rf w a is):
 Calls prog 26 #[.slice a is.length cap] w λe w'=>(∃v,e=.returned v/\Tt w.heap.size w' Rf 3 1 is v)/\Bw w w':=by
 obtain⟨b,off,hc⟩:=Jg q;have A:=U0 hc;clear hc q;have hmk:=Qx (z:=[.int .i64 0]) underlying31 (show(prog.info? 3).map (λi=>(i.zero,i.size,i.bytes))=some (some (.int .i64 0),1,8) from Y1) rfl rfl Z5 hl
 go_in
 go_wp2;go_loopw[4] (λi wr=>∃(k:Nat),k<=is.length/\i=.int .i64 k/\Below w.heap.size w wr/\Hid (Cl wr w.heap.size 3 (gu is (λx=>[.int .i64 x]) [.int .i64 0] k))) (λi _=>is.length-(RowKit.intOf i).toNat);exact⟨0,J4 _,rfl,Y6,X4 _ _ _⟩;obtain⟨k,hk,rfl,g,hc⟩:=hrel;by_cases c:k<is.length;rotate_left
 ·obtain rfl:k=is.length:=O0;have hd:Hid (Tt w.heap.size wr Rf 3 1 is _):=Gm (d:=0) (λ_=>rfl) (λu a is h=>h.imp id λ⟨b,o,h1,h2,y⟩=>⟨b,o,h1,h2,λi s=>by have:=y i s 0 _ rfl;rwa[Lm]at this⟩) hc.out;go_wp2;go_ret;exact⟨⟨_,rfl,hd.out⟩,g⟩
 obtain⟨ha,t,n⟩:=Jd A.out c;subst ha;have g0:=(g.cell (by exact t)).trans (n k c);have j:=U0 (lm (d:=0) (z:=[.int .i64 0]) (f:=(λx=>[.int .i64 x])) (m:=1) (λ_=>rfl) rfl c);generalize is.getD k 0=x at*;clear n
 go_wp2_with(refine Cc rfl 3 _ _ rfl (p:=k) rfl rfl Y1 hc.out (by have:=j.out.1;simp at this;omega) ?_;intro z r l;have B:Hid (Cl z w.heap.size 3 (gu is (λx=>[.int .i64 x]) [.int .i64 0] (k+1))):=(by rw[<- j.out.2,Lm,<- SK (by have:=j.out.1;simp at this;omega)];exact r.out);have bz:=g.trans (l.below X7);clear r l)
 go_roundw;exact⟨k+1,O0,by go_num,bz,B⟩;exact Z9
theorem XW(a:OA)(cap:Nat)(is:LB)(w:World)(hl:is.length<=1048576)(q:Z7 w a is):
 Calls prog 27 #[.slice a is.length cap] w λe w'=>(∃v,e=.returned v/\Tt w.heap.size w' Z7 9 1 is v)/\Bw w w':=by
 obtain⟨b,off,hc⟩:=La q;have A:=U0 hc;clear hc q;have hmk:=Qx (z:=[.string ⟨#[]⟩]) underlying22 (show(prog.info? 9).map (λi=>(i.zero,i.size,i.bytes))=some (some (.string ⟨#[]⟩),1,16) from Y1) rfl rfl Z5 hl
 go_in
 go_wp2;go_loopw[4] (λi wr=>∃(k:Nat),k<=is.length/\i=.int .i64 k/\Below w.heap.size w wr/\Hid (Cl wr w.heap.size 9 (gu is (λx=>[.string x]) [.string ⟨#[]⟩] k))) (λi _=>is.length-(RowKit.intOf i).toNat);exact⟨0,J4 _,rfl,Y6,X4 _ _ _⟩;obtain⟨k,hk,rfl,g,hc⟩:=hrel;by_cases c:k<is.length;rotate_left
 ·obtain rfl:k=is.length:=O0;have hd:Hid (Tt w.heap.size wr Z7 9 1 is _):=Gm (d:=ByteArray.empty) (λ_=>rfl) (λu a is h=>h.imp id λ⟨b,o,h1,h2,y⟩=>⟨b,o,h1,h2,λi s=>by have:=y i s 0 _ rfl;rwa[Lm]at this⟩) hc.out;go_wp2;go_ret;exact⟨⟨_,rfl,hd.out⟩,g⟩
 obtain⟨ha,t,n⟩:=Jd A.out c;subst ha;have g0:=(g.cell (by exact t)).trans (n k c);have j:=U0 (lm (d:=ByteArray.empty) (z:=[.string ⟨#[]⟩]) (f:=(λx=>[.string x])) (m:=1) (λ_=>rfl) rfl c);generalize is.getD k ByteArray.empty=x at*;clear n
 go_wp2_with(refine Cc rfl 9 _ _ rfl (p:=k) rfl rfl Y1 hc.out (by have:=j.out.1;simp at this;omega) ?_;intro z r l;have B:Hid (Cl z w.heap.size 9 (gu is (λx=>[.string x]) [.string ⟨#[]⟩] (k+1))):=(by rw[<- j.out.2,Lm,<- SK (by have:=j.out.1;simp at this;omega)];exact r.out);have bz:=g.trans (l.below X7);clear r l)
 go_roundw;exact⟨k+1,O0,by go_num,bz,B⟩;exact Z9
