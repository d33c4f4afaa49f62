import Derived.Test.YtdgneicbmalnpaaGreatDoorvY
set_option linter.all false
set_option maxHeartbeats 0
set_option maxRecDepth 99999
open Go.Value renaming slice->Sa,string->Sb,int->Sc,pointer->Sd
open Go.IntKind renaming i64->Se
open Go.Ending renaming returned->Sf
namespace Go.Proofs.YtdgneicbmalnpaaGreatDoor
open Proofs.Tryz Go.RowKit
def mB(i:Int):Value:=.bool (i%3==0)
def fk(l:List (Int->Value))(j:Nat)(i:Int):Value:=(l.getD (j%l.length) mT) i
def Rw(A B:Nat)(w:World)(t:TypeId)(m:Nat)(v:Value)(n:Nat):Prop:=∃a c,v=Sa a n c/\(n=0\/∃g xs,a=some ⟨g,0,none⟩/\A<=g/\g<B/\Cl w g t xs/\n*m<=xs.length)
def Mf(w:World)(t:TypeId)(l:List (Int->Value))(K:Int)(v:Value)(n:Nat):Prop:=∃a c,v=Sa a n c/\(n=0\/∃g ys,a=some ⟨g,0,none⟩/\Cl w g t ys/\∀j,j<n*l.length->ys[j]?=some (fk l j (K+(j:Int))))
section
variable{A B A' B' n m L:Nat}{w w':World}{t:TypeId}{v:Value}{l:List (Int->Value)}{K:Int}{S:List TypeId}{xs:List Value}
theorem Mf.keep(h:Mf w t l K v n)(k:∀g ys,v.ownBlock=some g->Cl w g t ys->w'.heap[g]?=w.heap[g]?):Mf w' t l K v n:=by
 obtain⟨a,c,e,h⟩:=h;exact⟨a,c,e,h.imp id λ⟨g,ys,b,h1,h2⟩=>⟨g,ys,b,(k g ys (by rw[e,b];rfl) h1).trans h1,h2⟩⟩
theorem Mf.below(h:Mf w t l K v n)(k:Bw w w'):Mf w' t l K v n:=h.keep (λg _ _ C=>k.block g C.lt)
theorem Mf.md(h:Mf w t l K v n)(k:Md A B S w w')(ht:t∉S):Mf w' t l K v n:=h.keep (λg ys _ C=>k.ty g t ys C ht)
theorem Rw.md(h:Rw A B w t m v n)(k:Md A' B' S w w'):Rw A B w' t m v n:=by
 obtain⟨a,c,e,h⟩:=h;refine⟨a,c,e,h.imp id λ⟨g,xs,e,h1,h2,C,hl⟩=>?_⟩;obtain⟨ys,l,b⟩:=k.sh g t xs C;exact⟨g,ys,e,h1,h2,b,by omega⟩
theorem Rw.mono(h:Rw A B w t m v n)(h1:A'<=A)(h2:B<=B'):Rw A' B' w t m v n:=by
 obtain⟨a,c,e,h⟩:=h;exact⟨a,c,e,h.imp id λ⟨g,xs,e,k1,k2,b⟩=>⟨g,xs,e,by omega,by omega,b⟩⟩
theorem Rw.one(h:Rw A B w t m v n)(f:A<=B):∃A' B',Rw A' B' w t m v n/\A<=A'/\B'<=B/\∀q,A'<=q->q<B'->v.ownBlock=some q:=by
 obtain⟨a,c,e,h|⟨g,xs,e1,d,k2,b⟩⟩:=h
 ·exact⟨B,B,⟨a,c,e,.inl h⟩,f,A8,λq h1 h2=>absurd h1 (by omega)⟩
 exact⟨g,g+1,⟨a,c,e,.inr ⟨g,xs,e1,A8,Vj _,b⟩⟩,d,by omega,λq h1 h2=>by rw[e,e1];exact G7 some (show g=q by omega)⟩
theorem Ow.rw_{a:OA}{c:Nat}(h:Ow A B w a t (n*m)):Rw A B w t m (Sa a n c) n:=by
 obtain⟨g,xs,h1,h2,e,d,b⟩:=h;exact⟨a,c,rfl,.inr ⟨g,xs,h1,h2,e,d,b⟩⟩
theorem own_rw{e:TypeId}(h:w.ownsRow A e m v n xs)(hB:w.heap.size<=B):Rw A B w e m v n:=by
 rcases h.2 with⟨hv,h0⟩|⟨g,cap,cur,hv,d,a,b,_,c,_⟩
 ·exact⟨none,0,by rw[hv,h0],.inl h0⟩
 refine⟨some (aA g 0),cap,hv,.inr ⟨g,cur.toList,rfl,d,Nat.lt_of_lt_of_le (Array.getElem?_eq_some_iff.1 a).1 hB,by unfold Cl;rw[a],?_⟩⟩;rw[Uy,c];exact Ro _ b
end
theorem pk{l:List (Int->Value)}{f:Int->Value}{K X:Int}{k:Nat}(r:Nat)(hr:r<l.length:=by decide)(hf:l.getD r mT=f:=by rfl)(hx:X=K+((k*l.length+r:Nat):Int):=by simp only[f_,Fb];omega):f X=fk l (k*l.length+r) (K+((k*l.length+r:Nat):Int)):=by
 subst hx;unfold fk;rw[show(k*l.length+r)%l.length=r by rw[UE,Nat.mul_add_mod,Nat.mod_eq_of_lt hr],hf]
theorem pk1{l:List (Int->Value)}{f:Int->Value}{K:Int}{k:Nat}(hl:l.length=1:=by rfl)(hf:l.getD 0 mT=f:=by rfl):f (K+(k:Int))=fk l k (K+(k:Int)):=by
 unfold fk;rw[hl,Nat.mod_one,hf]
theorem pk3{l:List (Int->Value)}{K:Int}{k:Nat}(hl:l.length=3:=by rfl)(hf:l.getD 0 mT=mB:=by rfl):mB K=fk l (k*l.length+0) (K+((k*l.length+0:Nat):Int)):=by
 rw[<- pk (l:=l) (f:=mB) (K:=K) (k:=k) 0 (by omega) hf rfl];unfold mB;rw[hl,show(K+((k*3+0:Nat):Int))%3=K%3 from by omega]
def Pt(w:World)(g:Nat)(t:TypeId)(l:List (Int->Value))(K:Int)(p L:Nat):Prop:=∃ys,Cl w g t ys/\L<=ys.length/\∀j,j<p->ys[j]?=some (fk l j (K+(j:Int)))
def Pz(A B:Nat)(w:World)(a:OA)(t:TypeId)(l:List (Int->Value))(K:Int)(k n:Nat):Prop:=n=0\/∃g,a=some ⟨g,0,none⟩/\(A<=g/\g<B)/\Pt w g t l K (k*l.length) (n*l.length)
section
variable{A B g k n p L m c:Nat}{w w0 w' w1:World}{a:OA}{t:TypeId}{l:List (Int->Value)}{K:Int}{S:List TypeId}
theorem wE(h:n=0\/∃g xs,a=some ⟨g,0,none⟩/\A<=g/\g<B/\Cl w g t xs/\n*l.length<=xs.length):Pz A B w a t l K 0 n:=h.imp id λ⟨g,xs,e,h1,h2,C,hl⟩=>⟨g,e,⟨h1,h2⟩,xs,C,hl,λj h=>absurd h (by omega)⟩
theorem Pz.pos(h:Pz A B w a t l K k n)(hk:k<n):∃g,a=some ⟨g,0,none⟩/\(A<=g/\g<B)/\Pt w g t l K (k*l.length+0) (n*l.length):=h.resolve_left (by omega)
theorem Pt.next(h:Pt w g t l K p (n*l.length))(a:A<=g/\g<B)(e:p=(k+1)*l.length:=by simp only[f_,Fb];omega):Pz A B w (some ⟨g,0,none⟩) t l K (k+1) n:=.inr ⟨g,rfl,a,e▸h⟩
theorem Pz.fin(h:Pz A B w a t l K n n):Mf w t l K (Sa a n c) n:=⟨a,c,rfl,h.imp id λ⟨g,e,_,ys,h1,_,b⟩=>⟨g,ys,e,h1,b⟩⟩
theorem Pt.below(h:Pt w g t l K p L)(b:Bw w w'):Pt w' g t l K p L:=h.imp λys ⟨c,r⟩=>⟨c.below b c.lt,r⟩
theorem Hl{P:Program}{ops:Array Oper}{Q:Exit->Act->World->Prop}{rest:List Oper}{o:Oper}{a:Act}(h:o.guard=none)(ty:TypeId)(x y:Operand)(ho:o.op=.store ty x y)(hx:a.eval x=Sd (some ⟨g,p,none⟩)){v:Value}(c:a.eval y=v)(f:(P.info? ty).map (·.size)=some 1)(H:Pt w g t l K p L)(hp:p<L)(hv:v=fk l p (K+(p:Int)))(M:Md A B S w0 w)(hA:A<=g/\g<B)(ht:t∈S)(h1:v.oneCell'=true:=by rfl)
 (i:∀w',Hid (Pt w' g t l K (p+1) L)->Hid (Md A B S w0 w')->wpList P ops Q rest (a.put o.dst undef) w'):wpList P ops Q (o::rest) a w:=by
 obtain⟨ys,C,hl,D⟩:=H;have d:p<ys.length:=by omega
 refine Qc h ty x y ho hx (c▸h1) f C d ?_;intro w' b O;rw[c]at b;exact i _ ⟨_,b.o,by rw[Qi];exact hl,λj hj=>by
  by_cases e:j=p
  ·subst e;rw[Xk d,hv]
  rw[w_ (Xn e)];exact D j (by omega)⟩ (M.on hA.1 hA.2 ht O C b.o)
end
end Go.Proofs.YtdgneicbmalnpaaGreatDoor
namespace Go.Proofs.YtdgneicbmalnpaaGreatDoor
open Proofs.Tryz Go.RowKit
variable{A B c n:Nat}{V w:World}{t:TypeId}{cs:List Value}{S S':List TypeId}
structure Bx(A B:Nat)(S:List TypeId)(w:World)(t:TypeId)(cs:List Value)(V:World):Prop where
 md:Md A B S w V
 c:Cl V w.heap.size t cs
theorem qF:Bx A B [] w t cs (w.alloc (.cells cs.toArray t)):=⟨Md.of U6,I4 _ _ _⟩
theorem Bx.go{a:World}(h:Bx A B S w t cs V)(hB:B<=w.heap.size)(m:Md A B S' V a):Bx A B (S++S') w t cs a:=⟨h.md.tr m,(m.block _ h.c.lt (.inr hB)).trans h.c⟩
theorem Bx.fin(h:Bx A B S w t cs V)(a:∀t∈S,t∈S'):Md A B S' w V:=h.md.mono A8 A8 a
theorem OwN.md{A' B' m j:Nat}{ti:TypeId}{w':World}{a:OA}(h:OwN A B w a t n m j ti c)(k:Md A' B' S w w')(ht:t∉S):OwN A B w' a t n m j ti c:=by
 obtain⟨g,h1,h2,e,b⟩:=h;obtain⟨xs,d,_⟩:=b.1;exact⟨g,h1,h2,e,b.md k (k.ty g t xs d ht)⟩
theorem m43(A B:Nat)(v:Value)(n:Nat)(K:Int)(w:World)(h1:1<=K)(h2:K<=90000000000000)(hn:n<=1048576)(ho:Rw A B w 3 1 v n):
 Calls prog 46 #[v,Sc Se K] w λe w'=>(e=Sf (Sc Se (K+(n:Int)))/\Mf w' 3 [mI] K v n)/\Md A B [3] w w':=by
 obtain⟨a,cp,rfl,h⟩:=ho;have m:Hid (Pz A B w a 3 [mI] K 0 n):=wE h
 go_in
 go_wp2;go_loopw[1,5] (λq i wr=>∃k:Nat,k<=n/\i=Sc Se k/\q=Sc Se (K+(k:Int))/\Hid (Md A B [3] w wr)/\Hid (Pz A B wr a 3 [mI] K k n)) (λ_ i _=>n-(RowKit.intOf i).toNat);exact⟨0,Y4 _,rfl,J4,Md.refl,m⟩;obtain⟨k,hk,rfl,rfl,c,b⟩:=hrel;by_cases j:k<n;rotate_left
 ·obtain rfl:k=n:=O0;go_wp2;go_ret;exact⟨⟨rfl,b.o.fin⟩,c⟩
 obtain⟨g,rfl,d,f⟩:=b.o.pos j;have b:Hid (Pt wr g 3 [mI] K k n):=by have h:=f;rwa[show k*[mI].length+0=k from Pm k,show n*[mI].length=n from Pm n]at h
 go_wp2_with(refine Hl rfl 3 _ _ rfl (p:=k) rfl (v:=mI (K+(k:Int))) rfl Y0 b.o O0 pk1 c.o d (by simp) rfl ?_;intro u l c)
 go_roundw;exact⟨k+1,O0,by go_num,by go_num,c,Pt.next (n:=n) (by rw[show n*[mI].length=n from Pm n];exact l.o) d⟩;exact V9
theorem m44(A B:Nat)(v:Value)(n:Nat)(K:Int)(w:World)(h1:1<=K)(h2:K<=90000000000000)(hn:n<=1048576)(ho:Rw A B w 9 1 v n):
 Calls prog 47 #[v,Sc Se K] w λe w'=>(e=Sf (Sc Se (K+(n:Int)))/\Mf w' 9 [mT] K v n)/\Md A B [9] w w':=by
 obtain⟨a,cp,rfl,h⟩:=ho;have o:Hid (Pz A B w a 9 [mT] K 0 n):=wE h
 go_in
 go_wp2;go_loopw[1,5] (λq i wr=>∃k:Nat,k<=n/\i=Sc Se k/\q=Sc Se (K+(k:Int))/\Hid (Md A B [9] w wr)/\Hid (Pz A B wr a 9 [mT] K k n)) (λ_ i _=>n-(RowKit.intOf i).toNat);exact⟨0,Y4 _,rfl,J4,Md.refl,o⟩;obtain⟨k,hk,rfl,rfl,c,b⟩:=hrel;by_cases l:k<n;rotate_left
 ·obtain rfl:k=n:=O0;go_wp2;go_ret;exact⟨⟨rfl,b.o.fin⟩,c⟩
 obtain⟨g,rfl,d,j⟩:=b.o.pos l;have b:Hid (Pt wr g 9 [mT] K k n):=by have h:=j;rwa[show k*[mT].length+0=k from Pm k,show n*[mT].length=n from Pm n]at h
 go_wp2_with fail
 refine(c91 _ _ O0 O0).mono ?_;rintro e w0⟨rfl,f⟩
 replace c:=U0 (c.o.trans (Md.of f))
 replace b:=U0 (b.o.below f)
 go_wp2_with(refine Hl rfl 9 _ _ rfl (p:=k) rfl (v:=mT (K+(k:Int))) rfl Y0 b.o O0 pk1 c.o d (by simp) rfl ?_;intro u m c)
 go_roundw;exact⟨k+1,O0,by go_num,by go_num,c,Pt.next (n:=n) (by rw[show n*[mT].length=n from Pm n];exact m.o) d⟩;exact V9
theorem a6x(A B:Nat)(v:Value)(n:Nat)(K:Int)(w:World)(h1:1<=K)(h2:K<=90000000000000)(hn:n<=1048576)(ho:Rw A B w 169 2 v n):
 Calls prog 89 #[v,Sc Se K] w λe w'=>(e=Sf (Sc Se (K+2*(n:Int)))/\Mf w' 169 [mT,mT] K v n)/\Md A B [169] w w':=by
 obtain⟨a,cp,rfl,h⟩:=ho;have r:Hid (Pz A B w a 169 [mT,mT] K 0 n):=wE h
 go_in
 go_wp2;go_loopw[1,5] (λq i wr=>∃k:Nat,k<=n/\i=Sc Se k/\q=Sc Se (K+2*(k:Int))/\Hid (Md A B [169] w wr)/\Hid (Pz A B wr a 169 [mT,mT] K k n)) (λ_ i _=>n-(RowKit.intOf i).toNat);exact⟨0,Y4 _,rfl,J4,Md.refl,r⟩;obtain⟨k,hk,rfl,rfl,b,c⟩:=hrel;by_cases m:k<n;rotate_left
 ·obtain rfl:k=n:=O0;go_wp2;go_ret;exact⟨⟨rfl,c.o.fin⟩,b⟩
 obtain⟨g,rfl,f,l⟩:=c.o.pos m;have c:Hid (Pt wr g 169 [mT,mT] K (k*2) (n*2)):=l
 go_wp2_with fail
 refine(c91 _ _ O0 O0).mono ?_;rintro e w0⟨rfl,d⟩
 replace b:=U0 (b.o.trans (Md.of d))
 replace c:=U0 (c.o.below d)
 go_wp2_with(refine Hl rfl 9 _ _ rfl (p:=k*2) rfl (v:=mT (K+2*(k:Int))) rfl Y0 c.o O0 (pk 0) b.o f (by simp) rfl ?_;intro u j b)
 refine(c91 _ _ O0 O0).mono ?_;rintro e w1⟨rfl,d⟩
 replace b:=U0 (b.o.trans (Md.of d))
 replace j:=U0 (j.o.below d)
 go_wp2_with(refine Hl rfl 9 _ _ rfl (p:=k*2+1) rfl (v:=mT (K+2*(k:Int)+1)) rfl Y0 j.o O0 (pk 1) b.o f (by simp) rfl ?_;intro u o b)
 go_roundw;exact⟨k+1,O0,by go_num,by go_num,b,o.o.next f⟩;exact V9
theorem m46(A B:Nat)(v:Value)(n:Nat)(K:Int)(w:World)(h1:1<=K)(h2:K<=90000000000000)(hn:n<=1048576)(ho:Rw A B w 124 3 v n):
 Calls prog 49 #[v,Sc Se K] w λe w'=>(e=Sf (Sc Se (K+3*(n:Int)))/\Mf w' 124 [mT,mI,mI] K v n)/\Md A B [124] w w':=by
 obtain⟨a,cp,rfl,h⟩:=ho;have s:Hid (Pz A B w a 124 [mT,mI,mI] K 0 n):=wE h
 go_in
 go_wp2;go_loopw[1,5] (λq i wr=>∃k:Nat,k<=n/\i=Sc Se k/\q=Sc Se (K+3*(k:Int))/\Hid (Md A B [124] w wr)/\Hid (Pz A B wr a 124 [mT,mI,mI] K k n)) (λ_ i _=>n-(RowKit.intOf i).toNat);exact⟨0,Y4 _,rfl,J4,Md.refl,s⟩;obtain⟨k,hk,rfl,rfl,b,c⟩:=hrel;by_cases l:k<n;rotate_left
 ·obtain rfl:k=n:=O0;go_wp2;go_ret;exact⟨⟨rfl,c.o.fin⟩,b⟩
 obtain⟨g,rfl,d,j⟩:=c.o.pos l;have c:Hid (Pt wr g 124 [mT,mI,mI] K (k*3) (n*3)):=j
 go_wp2_with fail
 refine(c91 _ _ O0 O0).mono ?_;rintro e w0⟨rfl,f⟩
 replace b:=U0 (b.o.trans (Md.of f))
 replace c:=U0 (c.o.below f)
 go_wp2_with(first|(refine Hl rfl 9 _ _ rfl (p:=k*3) rfl (v:=mT (K+3*(k:Int))) rfl Y0 c.o O0 (pk 0) b.o d (by simp) rfl ?_;intro u r b)|(refine Hl rfl 3 _ _ rfl (p:=k*3+1) rfl (v:=mI (K+3*(k:Int)+1)) rfl Y0 r.o O0 (pk 1) b.o d (by simp) rfl ?_;intro u o b)|(refine Hl rfl 3 _ _ rfl (p:=k*3+2) rfl (v:=mI (K+3*(k:Int)+1+1)) rfl Y0 o.o O0 (pk 2) b.o d (by simp) rfl ?_;intro u m b))
 go_roundw;exact⟨k+1,O0,by go_num,by go_num,b,m.o.next d⟩;exact V9
theorem a4w(A B:Nat)(v:Value)(n:Nat)(K:Int)(w:World)(h1:1<=K)(h2:K<=90000000000000)(hn:n<=1048576)(ho:Rw A B w 235 3 v n):
 Calls prog 142 #[v,Sc Se K] w λe w'=>(e=Sf (Sc Se (K+3*(n:Int)))/\Mf w' 235 [mB,mT,mT] K v n)/\Md A B [235] w w':=by
 obtain⟨a,cp,rfl,h⟩:=ho;have s:Hid (Pz A B w a 235 [mB,mT,mT] K 0 n):=wE h
 go_in
 go_wp2;go_loopw[1,5] (λq i wr=>∃k:Nat,k<=n/\i=Sc Se k/\q=Sc Se (K+3*(k:Int))/\Hid (Md A B [235] w wr)/\Hid (Pz A B wr a 235 [mB,mT,mT] K k n)) (λ_ i _=>n-(RowKit.intOf i).toNat);exact⟨0,Y4 _,rfl,J4,Md.refl,s⟩;obtain⟨k,hk,rfl,rfl,b,f⟩:=hrel;by_cases o:k<n;rotate_left
 ·obtain rfl:k=n:=O0;go_wp2;go_ret;exact⟨⟨rfl,f.o.fin⟩,b⟩
 obtain⟨g,rfl,d,m⟩:=f.o.pos o;have f:Hid (Pt wr g 235 [mB,mT,mT] K (k*3) (n*3)):=m
 go_wp2_with(refine Hl rfl 4 _ _ rfl (p:=k*3) rfl (v:=mB (K)) rfl Y0 f.o O0 pk3 b.o d (by simp) rfl ?_;intro u l b)
 refine(c91 _ _ O0 O0).mono ?_;rintro e w1⟨rfl,c⟩
 replace b:=U0 (b.o.trans (Md.of c))
 replace l:=U0 (l.o.below c)
 go_wp2_with(refine Hl rfl 9 _ _ rfl (p:=k*3+1) rfl (v:=mT (K+3*(k:Int)+1)) rfl Y0 l.o O0 (pk 1) b.o d (by simp) rfl ?_;intro u j b)
 refine(c91 _ _ O0 O0).mono ?_;rintro e w2⟨rfl,c⟩
 replace b:=U0 (b.o.trans (Md.of c))
 replace j:=U0 (j.o.below c)
 go_wp2_with(refine Hl rfl 9 _ _ rfl (p:=k*3+2) rfl (v:=mT (K+3*(k:Int)+1+1)) rfl Y0 j.o O0 (pk 2) b.o d (by simp) rfl ?_;intro u r b)
 go_roundw;exact⟨k+1,O0,by go_num,by go_num,b,r.o.next d⟩;exact V9
theorem a4m(A B:Nat)(v:Value)(n:Nat)(K:Int)(w:World)(h1:1<=K)(h2:K<=90000000000000)(hn:n<=1048576)(ho:Rw A B w 213 4 v n):
 Calls prog 92 #[v,Sc Se K] w λe w'=>(e=Sf (Sc Se (K+4*(n:Int)))/\Mf w' 213 [mB,mT,mI,mT] K v n)/\Md A B [213] w w':=by
 obtain⟨a,cp,rfl,h⟩:=ho;have t:Hid (Pz A B w a 213 [mB,mT,mI,mT] K 0 n):=wE h
 go_in
 go_wp2;go_loopw[1,5] (λq i wr=>∃k:Nat,k<=n/\i=Sc Se k/\q=Sc Se (K+4*(k:Int))/\Hid (Md A B [213] w wr)/\Hid (Pz A B wr a 213 [mB,mT,mI,mT] K k n)) (λ_ i _=>n-(RowKit.intOf i).toNat);exact⟨0,Y4 _,rfl,J4,Md.refl,t⟩;obtain⟨k,hk,rfl,rfl,b,f⟩:=hrel;by_cases o:k<n;rotate_left
 ·obtain rfl:k=n:=O0;go_wp2;go_ret;exact⟨⟨rfl,f.o.fin⟩,b⟩
 obtain⟨g,rfl,c,m⟩:=f.o.pos o;have f:Hid (Pt wr g 213 [mB,mT,mI,mT] K (k*4) (n*4)):=m
 go_wp2_with(refine Hl rfl 4 _ _ rfl (p:=k*4) rfl (v:=mB (K+4*(k:Int))) rfl Y0 f.o O0 (pk 0) b.o c (by simp) rfl ?_;intro u l b)
 refine(c91 _ _ O0 O0).mono ?_;rintro e w1⟨rfl,d⟩
 replace b:=U0 (b.o.trans (Md.of d))
 replace l:=U0 (l.o.below d)
 go_wp2_with(first|(refine Hl rfl 9 _ _ rfl (p:=k*4+1) rfl (v:=mT (K+4*(k:Int)+1)) rfl Y0 l.o O0 (pk 1) b.o c (by simp) rfl ?_;intro u s b)|(refine Hl rfl 3 _ _ rfl (p:=k*4+2) rfl (v:=mI (K+4*(k:Int)+1+1)) rfl Y0 s.o O0 (pk 2) b.o c (by simp) rfl ?_;intro u j b))
 refine(c91 _ _ O0 O0).mono ?_;rintro e w3⟨rfl,d⟩
 replace b:=U0 (b.o.trans (Md.of d))
 replace j:=U0 (j.o.below d)
 go_wp2_with(refine Hl rfl 9 _ _ rfl (p:=k*4+3) rfl (v:=mT (K+4*(k:Int)+1+1+1)) rfl Y0 j.o O0 (pk 3) b.o c (by simp) rfl ?_;intro u r b)
 go_roundw;exact⟨k+1,O0,by go_num,by go_num,b,r.o.next c⟩;exact V9
def kQ(c e:Nat)(ls:List Nat)(K:Int)(i:Nat):Int:=K+(c:Int)*(i:Int)+(e:Int)*((ls.take i).sum:Nat)
theorem tV(ls:List Nat)(i:Nat):(ls.take (i+1)).sum=(ls.take i).sum+ls.getD i 0:=by
 rw[Oq,List.sum_append];cases h:ls[i]?<;>simp[List.getD,h]
theorem Dn(c e:Nat)(ls:List Nat)(K:Int):kQ c e ls K 0=K:=by simp[kQ]
theorem Yv(c e:Nat)(ls:List Nat)(K:Int)(i:Nat):kQ c e ls K (i+1)=kQ c e ls K i+c+e*(ls.getD i 0:Nat):=by
 unfold kQ;rw[tV]
 push_cast
 rw[Int.mul_add,Int.mul_add,Int.mul_one];omega
theorem Qv{e:Nat}{ls:List Nat}{K:Int}(h:∀i,i<n->ls.getD i 0<=1048576)(i:Nat)(a:i<=n):K<=kQ c e ls K i/\kQ c e ls K i<=K+((c+e*1048576:Nat):Int)*(i:Int):=by
 induction i with
 | zero=>rw[Dn];omega
 | succ i ih=>
  obtain⟨h1,h2⟩:=ih (by omega);have b:=Int.ofNat_le.2 (Nat.mul_le_mul_left e (h i a));have h0:=Int.natCast_nonneg (e*ls.getD i 0);rw[Yv,show((i+1:Nat):Int)=(i:Int)+1 from by omega,Int.mul_add,Int.mul_one];rw[KJ c]at h2 ⊢;rw[Int.natCast_mul e (ls.getD i 0)]at b h0;omega
def Ap(n:Nat)(vs:List Value):Prop:=∀i j,i<n->j<n->i≠j->(vs.getD i undef).ownBlock=none\/(vs.getD i undef).ownBlock≠(vs.getD j undef).ownBlock
structure NR(A B:Nat)(w:World)(T:TypeId)(m j:Nat)(TI:TypeId)(mi:Nat)(v:Value)(n:Nat)(vs:List Value)(ls:List Nat):Prop where
 row:∃a c,v=Sa a n c/\(n=0\/∃g xs,a=some ⟨g,0,none⟩/\A<=g/\g<B/\Cl w g T xs/\n*m<=xs.length/\∀i,i<n->xs[i*m+j]?=some (vs.getD i undef))
 inn:∀i,i<n->Rw A B w TI mi (vs.getD i undef) (ls.getD i 0)
 le:∀i,i<n->ls.getD i 0<=1048576
structure MN(w:World)(T:TypeId)(m j:Nat)(TI:TypeId)(il:List (Int->Value))(off:Nat)(E:Int->Nat->Nat->Option Value)(c e:Nat)(K:Int)(v:Value)(n:Nat)(vs:List Value)(ls:List Nat):Prop where
 row:∃a cp,v=Sa a n cp/\(n=0\/∃g ys,a=some ⟨g,0,none⟩/\Cl w g T ys/\∀i,i<n->ys[i*m+j]?=some (vs.getD i undef)/\∀r x,E (kQ c e ls K i) (ls.getD i 0) r=some x->ys[i*m+r]?=some x)
 inn:∀i,i<n->Mf w TI il (kQ c e ls K i+off) (vs.getD i undef) (ls.getD i 0)
 le:∀i,i<n->ls.getD i 0<=1048576
section
variable{A B A' B' n m j mi off c e:Nat}{w w':World}{T TI:TypeId}{v:Value}{vs:List Value}{ls:List Nat}{il:List (Int->Value)}{K:Int}{S:List TypeId}{E:Int->Nat->Nat->Option Value}
theorem MN.keep(h:MN w T m j TI il off E c e K v n vs ls)(k:∀g t xs,Cl w g t xs->t=T\/t=TI->w'.heap[g]?=w.heap[g]?):MN w' T m j TI il off E c e K v n vs ls:=⟨by
 obtain⟨a,cp,e1,h1⟩:=h.row;exact⟨a,cp,e1,h1.imp id λ⟨g,ys,f,h2,d⟩=>⟨g,ys,f,(k g _ ys h2 (.inl rfl)).trans h2,d⟩⟩,λi b=>(h.inn i b).keep (λg ys _ C=>k g _ ys C (.inr rfl)),h.le⟩
theorem MN.below(h:MN w T m j TI il off E c e K v n vs ls)(k:Bw w w'):MN w' T m j TI il off E c e K v n vs ls:=h.keep (λg t xs C _=>k.block g C.lt)
theorem MN.md(h:MN w T m j TI il off E c e K v n vs ls)(k:Md A B S w w')(h1:T∉S)(h2:TI∉S):MN w' T m j TI il off E c e K v n vs ls:=h.keep (λg t xs C ht=>k.ty g t xs C (by rcases ht with rfl|rfl<;>assumption))
theorem NR.md(h:NR A B w T m j TI mi v n vs ls)(k:Md A' B' S w w')(ht:T∉S):NR A B w' T m j TI mi v n vs ls:=⟨by
 obtain⟨a,cp,e1,h1⟩:=h.row;exact⟨a,cp,e1,h1.imp id λ⟨g,xs,f,h2,e,b,d⟩=>⟨g,xs,f,h2,e,(k.ty g T xs b ht).trans b,d⟩⟩,λi c=>(h.inn i c).md k,h.le⟩
end
def rE(K:Int)(L:Nat):Nat->Option Value
 | 0=>some (mT K)
 | 2=>some (mT (K+1+3*(L:Int)))
 | _=>none
def nE(K:Int)(L:Nat):Nat->Option Value
 | 0=>some (mT K)
 | 1=>some (mI (K+1))
 | 2=>some (mT (K+1+1))
 | 4=>some (mI (K+1+1+1+4*(L:Int)))
 | 5=>some (mT (K+1+1+1+4*(L:Int)+1))
 | _=>none
theorem uI{w:World}{g:Nat}{t a:TypeId}{xs ys:List Value}(h:Cl w g t xs)(k:Cl w g a ys):t=a:=by
 have:=h.symm.trans k;injection this with e;injection e with e1 e2
theorem QB{A B g n mi:Nat}{w w':World}{t ti:TypeId}{xs vs:List Value}{ls:List Nat}(h:∀i,i<n->Rw A B w ti mi (vs.getD i undef) (ls.getD i 0))(o:Jr g w w')(C:Cl w g t xs)(ht:ti≠t):∀i,i<n->Rw A B w' ti mi (vs.getD i undef) (ls.getD i 0):=λi d=>by
 obtain⟨a,c,e,k⟩:=h i d;exact⟨a,c,e,k.imp id λ⟨q,ys,f,h1,h2,b,hl⟩=>⟨q,ys,f,h1,h2,b.on o (λe=>ht (by subst e;exact uI b C)),hl⟩⟩
theorem qB{n k g:Nat}{w w':World}{t ti:TypeId}{xs vs:List Value}{ls:List Nat}{il:List (Int->Value)}{F:Nat->Int}(h:Ap n vs->∀i,i<k->Mf w ti il (F i) (vs.getD i undef) (ls.getD i 0))(o:Jr g w w')(C:Cl w g t xs)(ht:ti≠t):Ap n vs->∀i,i<k->Mf w' ti il (F i) (vs.getD i undef) (ls.getD i 0):=λb i a=>(h b i a).keep (λq ys _ c=>o.block q (λe=>ht (by subst e;exact uI c C)))
theorem a3n(a:OA)(c:Nat)(K:Int)(w:World):Calls prog 90 #[Sa a 0 c,Sc Se K] w λe w'=>e=Sf (Sc Se K)/\w'=w:=by
 go_in
 go_wp2;go_loopw[1,5] (λq i wr=>q=Sc Se K/\i=Sc Se 0/\wr=w) (λ_ _ _=>0);exact⟨rfl,rfl,rfl⟩;obtain⟨rfl,rfl,h⟩:=hrel;subst h;go_wp2;go_ret;exact⟨rfl,rfl⟩
theorem a4A(A B:Nat)(v:Value)(n:Nat)(vs:List Value)(ls:List Nat)(K:Int)(w:World)(h1:1<=K)(h2:K<=50000000000000)(hn:n<=1048576)(hAB:A<=B)(ho:NR A B w 179 3 1 235 3 v n vs ls):
 Calls prog 90 #[v,Sc Se K] w λe w'=>(e=Sf (Sc Se (kQ 2 3 ls K n))/\(Ap n vs->MN w' 179 3 1 235 [mB,mT,mT] 1 rE 2 3 K v n vs ls))/\Md A B [179,235] w w':=by
 have H:=U0 ho.le;have HRI:=U0 ho.inn;obtain⟨a,cp,rfl,rfl|⟨g,xs,rfl,hA,hB,C,hl,P⟩⟩:=ho.row
 ·refine(a3n a cp K w).mono ?_;rintro e w'⟨rfl,h⟩;exact⟨⟨by rw[Dn],λ_=>⟨⟨a,cp,rfl,.inl rfl⟩,λi b=>absurd b (U8 _),λi b=>absurd b (U8 _)⟩⟩,h▸Md.refl⟩
 have HC:=U0 C;have HVI:=U0 P;clear C P ho
 go_in
 go_wp2;go_loopw[1,5] (λq i wr=>∃(k:Nat)(ys:List Value),k<=n/\i=Sc Se k/\q=Sc Se (kQ 2 3 ls K k)/\n*3<=ys.length/\Hid (Md A B [179,235] w wr)/\Hid (Cl wr g 179 ys)/\Hid (∀i,i<n->ys[i*3+1]?=some (vs.getD i undef))/\Hid (∀i,i<k->∀r x,rE (kQ 2 3 ls K i) (ls.getD i 0) r=some x->ys[i*3+r]?=some x)/\Hid (∀i,i<n->Rw A B wr 235 3 (vs.getD i undef) (ls.getD i 0))/\Hid (Ap n vs->∀i,i<k->Mf wr 235 [mB,mT,mT] (kQ 2 3 ls K i+1) (vs.getD i undef) (ls.getD i 0))) (λ_ i _=>n-(RowKit.intOf i).toNat);exact⟨0,xs,Y4 _,rfl,by rw[Dn],hl,Md.refl,HC,HVI,λi h=>absurd h (U8 _),HRI,λ_ i h=>absurd h (U8 _)⟩;obtain⟨k,ys,hk,rfl,rfl,hl,l,o,N,DE,d,m⟩:=hrel;by_cases u:k<n;rotate_left
 ·obtain rfl:k=n:=O0;go_wp2;go_ret;exact⟨⟨rfl,λs=>⟨⟨_,_,rfl,.inr ⟨g,ys,rfl,o.o,λi b=>⟨N.o i b,DE.o i b⟩⟩⟩,m.o s,H.o⟩⟩,l.o⟩
 obtain⟨ai,Y,t,_⟩:=d.o k u;have I:=Qv (c:=2) (e:=3) (K:=K) H.o k hk;have J:=U0 (Yv 2 3 ls K k);have U:=H.o k u;obtain⟨L,eL⟩:∃L,Hid (ls.getD k 0=L):=⟨_,rfl⟩;obtain⟨X,F⟩:∃X,Hid (kQ 2 3 ls K k=X):=⟨_,rfl⟩;rw[eL.o]at t U
 replace t:=U0 t
 rw[F.o]at I ⊢
 replace J:=U0 (J.o.trans (by rw[F.o,eL.o]))
 replace I:K<=X/\X<=K+3145730*(k:Int):=I
 go_wp2_with fail
 refine(c91 _ _ O0 O0).mono ?_;rintro e w0⟨rfl,j⟩
 replace l:=U0 (l.o.trans (Md.of j))
 replace o:=U0 (o.o.below j o.o.lt)
 replace d:=U0 (λi b=>(d.o i b).md (Md.of (A:=0) (B:=0) (S:=[]) j))
 replace m:=U0 (λh i b=>(m.o h i b).below j)
 clear j
 go_wp2_with(refine Qc rfl 9 _ _ rfl (p:=k*3) rfl rfl Y0 o.o O0 ?_;intro u0 c0 z;have f:Hid (Cl u0 g 179 (ys.set (k*3) (mT (X)))):=c0;replace l:=U0 (l.o.on hA hB (by simp) z o.o f.o);replace d:=U0 (QB d.o z o.o (by decide));replace m:=U0 (qB m.o z o.o (by decide));clear z c0;have D:u0.cell? (aA g (k*3+1))=some (vL ai L Y):=by rw[f.o.cell,w_ (show k*3≠k*3+1 by omega),N.o k u,t.o])
 clear D;obtain⟨A',B',hr,W,V,Q⟩:=(d.o k u).one hAB;rw[t.o,eL.o]at hr;refine(a4w A' B' (vL ai L Y) L _ _ O0 O0 U hr).mono ?_;rintro e O⟨⟨rfl,R⟩,hm⟩;have y:=U0 R
 replace m:Hid (Ap n vs->∀i,i<k->Mf O 235 [mB,mT,mT] (kQ 2 3 ls K i+1) (vs.getD i undef) (ls.getD i 0)):=λs i b=>(m.o s i b).keep (λq xs D C=>hm.block q C.lt (by
  rcases Z7 q A' with h1|h1
  ·exact .inl h1
  rcases Z7 q B' with h2|h2
  ·have h3:=Q q h1 h2;rcases s i k (by omega) u (by omega)with E|E
   ·rw[D]at E;cases E
   exact absurd (D.trans h3.symm) E
  exact .inr h2))
 replace d:=U0 (λi b=>(d.o i b).md hm)
 replace l:=U0 (l.o.trans (hm.mono W V (by simp)))
 replace f:Hid (Cl O g 179 (ys.set (k*3) (mT (X)))):=(hm.ty g 179 _ f.o (by decide)).trans f.o
 clear hm R Q W V hr
 go_wp2_with fail
 refine(c91 _ _ O0 O0).mono ?_;rintro e w1⟨rfl,j⟩
 replace l:=U0 (l.o.trans (Md.of j))
 replace f:=U0 (f.o.below j f.o.lt)
 replace d:=U0 (λi b=>(d.o i b).md (Md.of (A:=0) (B:=0) (S:=[]) j))
 replace m:=U0 (λh i b=>(m.o h i b).below j)
 replace y:=U0 (y.o.below j)
 clear j
 go_wp2_with(refine Qc rfl 9 _ _ rfl (p:=k*3+2) rfl rfl Y0 f.o (by simp only[Qi];omega) ?_;intro u1 Z o1;have C2:Hid (Cl u1 g 179 ((ys.set (k*3) (mT (X))).set (k*3+2) (mT (X+1+3*(L:Int))))):=Z;replace l:=U0 (l.o.on hA hB (by simp) o1 f.o C2.o);replace d:=U0 (QB d.o o1 f.o (by decide));replace y:=U0 (y.o.keep (λq xs _ C=>o1.block q (λe=>by subst e;exact absurd (uI C f.o) (by decide))));replace m:=U0 (qB m.o o1 f.o (by decide));clear o1 Z)
 have V1:Hid (∀i,i<n->(((ys.set (k*3) (mT (X))).set (k*3+2) (mT (X+1+3*(L:Int)))))[i*3+1]?=some (vs.getD i undef)):=λi b=>by rw[w_ (show k*3+2≠i*3+1 by omega),w_ (show k*3≠i*3+1 by omega)];exact N.o i b
 have D1:Hid (∀i,i<k+1->∀r x,rE (kQ 2 3 ls K i) (ls.getD i 0) r=some x->(((ys.set (k*3) (mT (X))).set (k*3+2) (mT (X+1+3*(L:Int)))))[i*3+r]?=some x):=λi b r x hx=>by
  by_cases e:i=k;rotate_left
  ·have hr:r<3:=by
    rcases r with _|_|_|r
    any_goals omega
    cases hx
   rw[w_ (show k*3+2≠i*3+r by omega),w_ (show k*3≠i*3+r by omega)];exact DE.o i (by omega) r x hx
  replace e:=e.symm
  subst e;rw[F.o,eL.o]at hx
  match r,hx with
  | 0,hx=>rw[Zo (k*3),w_ (show k*3+2≠k*3 by omega),Xk (by omega)];exact hx
  | 1,hx=>cases hx
  | 2,hx=>rw[Xk (by simp only[Qi];omega)];exact hx
 have I1:Hid (Ap n vs->∀i,i<k+1->Mf u1 235 [mB,mT,mT] (kQ 2 3 ls K i+1) (vs.getD i undef) (ls.getD i 0)):=λs i b=>by
  by_cases e:i=k
  ·replace e:=e.symm
   subst e;rw[F.o,eL.o,t.o];exact y
  exact m s i (by omega)
 have hl1:n*3<=(((ys.set (k*3) (mT (X))).set (k*3+2) (mT (X+1+3*(L:Int))))).length:=by simp only[Qi];exact hl
 go_roundw;exact⟨k+1,_,O0,by go_num,by rw[J.o];go_num,hl1,l,C2,V1,D1,d,I1⟩;exact V9
end Go.Proofs.YtdgneicbmalnpaaGreatDoor
namespace Go.Proofs.YtdgneicbmalnpaaGreatDoor
open Proofs.Tryz Go.RowKit
theorem a6G(a:OA)(c:Nat)(K:Int)(w:World):Calls prog 48 #[Sa a 0 c,Sc Se K] w λe w'=>e=Sf (Sc Se K)/\w'=w:=by
 go_in
 go_wp2;go_loopw[1,5] (λq i wr=>q=Sc Se K/\i=Sc Se 0/\wr=w) (λ_ _ _=>0);exact⟨rfl,rfl,rfl⟩;obtain⟨rfl,rfl,h⟩:=hrel;subst h;go_wp2;go_ret;exact⟨rfl,rfl⟩
theorem m45(A B:Nat)(v:Value)(n:Nat)(vs:List Value)(ls:List Nat)(K:Int)(w:World)(h1:1<=K)(h2:K<=50000000000000)(hn:n<=1048576)(hAB:A<=B)(ho:NR A B w 119 6 3 213 4 v n vs ls):
 Calls prog 48 #[v,Sc Se K] w λe w'=>(e=Sf (Sc Se (kQ 5 4 ls K n))/\(Ap n vs->MN w' 119 6 3 213 [mB,mT,mI,mT] 3 nE 5 4 K v n vs ls))/\Md A B [119,213] w w':=by
 have O:=U0 ho.le;have HRI:=U0 ho.inn;obtain⟨a,cp,rfl,rfl|⟨g,xs,rfl,hA,hB,C,hl,V⟩⟩:=ho.row
 ·refine(a6G a cp K w).mono ?_;rintro e w'⟨rfl,h⟩;exact⟨⟨by rw[Dn],λ_=>⟨⟨a,cp,rfl,.inl rfl⟩,λi b=>absurd b (U8 _),λi b=>absurd b (U8 _)⟩⟩,h▸Md.refl⟩
 have HC:=U0 C;have HVI:=U0 V;clear C V ho
 go_in
 go_wp2;go_loopw[1,5] (λq i wr=>∃(k:Nat)(ys:List Value),k<=n/\i=Sc Se k/\q=Sc Se (kQ 5 4 ls K k)/\n*6<=ys.length/\Hid (Md A B [119,213] w wr)/\Hid (Cl wr g 119 ys)/\Hid (∀i,i<n->ys[i*6+3]?=some (vs.getD i undef))/\Hid (∀i,i<k->∀r x,nE (kQ 5 4 ls K i) (ls.getD i 0) r=some x->ys[i*6+r]?=some x)/\Hid (∀i,i<n->Rw A B wr 213 4 (vs.getD i undef) (ls.getD i 0))/\Hid (Ap n vs->∀i,i<k->Mf wr 213 [mB,mT,mI,mT] (kQ 5 4 ls K i+3) (vs.getD i undef) (ls.getD i 0))) (λ_ i _=>n-(RowKit.intOf i).toNat);exact⟨0,xs,Y4 _,rfl,by rw[Dn],hl,Md.refl,HC,HVI,λi h=>absurd h (U8 _),HRI,λ_ i h=>absurd h (U8 _)⟩;obtain⟨k,ys,hk,rfl,rfl,hl,f,t,R,DE,d,j⟩:=hrel;by_cases E:k<n;rotate_left
 ·obtain rfl:k=n:=O0;go_wp2;go_ret;exact⟨⟨rfl,λy=>⟨⟨_,_,rfl,.inr ⟨g,ys,rfl,t.o,λi b=>⟨R.o i b,DE.o i b⟩⟩⟩,j.o y,O.o⟩⟩,f.o⟩
 obtain⟨ai,ci,z,_⟩:=d.o k E;have P:=Qv (c:=5) (e:=4) (K:=K) O.o k hk;have Q:=U0 (Yv 5 4 ls K k);have Z:=O.o k E;obtain⟨L,eL⟩:∃L,Hid (ls.getD k 0=L):=⟨_,rfl⟩;obtain⟨X,N⟩:∃X,Hid (kQ 5 4 ls K k=X):=⟨_,rfl⟩;rw[eL.o]at z Z
 replace z:=U0 z
 rw[N.o]at P ⊢
 replace Q:=U0 (Q.o.trans (by rw[N.o,eL.o]))
 replace P:K<=X/\X<=K+4194309*(k:Int):=P
 go_wp2_with fail
 refine(c91 _ _ O0 O0).mono ?_;rintro e w0⟨rfl,l⟩
 replace f:=U0 (f.o.trans (Md.of l))
 replace t:=U0 (t.o.below l t.o.lt)
 replace d:=U0 (λi b=>(d.o i b).md (Md.of (A:=0) (B:=0) (S:=[]) l))
 replace j:=U0 (λh i b=>(j.o h i b).below l)
 clear l
 go_wp2_with(first|(refine Qc rfl 9 _ _ rfl (p:=k*6) rfl rfl Y0 t.o O0 ?_;intro u0 c0 H;have F:Hid (Cl u0 g 119 (ys.set (k*6) (mT (X)))):=c0;replace f:=U0 (f.o.on hA hB (by simp) H t.o F.o);replace d:=U0 (QB d.o H t.o (by decide));replace j:=U0 (qB j.o H t.o (by decide));clear H c0)|(refine Qc rfl 3 _ _ rfl (p:=k*6+1) rfl rfl Y0 F.o (by simp only[Qi];omega) ?_;intro u1 c1 o1;have s:Hid (Cl u1 g 119 ((ys.set (k*6) (mT (X))).set (k*6+1) (mI (X+1)))):=c1;replace f:=U0 (f.o.on hA hB (by simp) o1 F.o s.o);replace d:=U0 (QB d.o o1 F.o (by decide));replace j:=U0 (qB j.o o1 F.o (by decide));clear o1 c1))
 refine(c91 _ _ O0 O0).mono ?_;rintro e w2⟨rfl,l⟩
 replace f:=U0 (f.o.trans (Md.of l))
 replace s:=U0 (s.o.below l s.o.lt)
 replace d:=U0 (λi b=>(d.o i b).md (Md.of (A:=0) (B:=0) (S:=[]) l))
 replace j:=U0 (λh i b=>(j.o h i b).below l)
 clear l
 go_wp2_with(refine Qc rfl 9 _ _ rfl (p:=k*6+2) rfl rfl Y0 s.o (by simp only[Qi];omega) ?_;intro u2 c2 o2;have m:Hid (Cl u2 g 119 (((ys.set (k*6) (mT (X))).set (k*6+1) (mI (X+1))).set (k*6+2) (mT (X+1+1)))):=c2;replace f:=U0 (f.o.on hA hB (by simp) o2 s.o m.o);replace d:=U0 (QB d.o o2 s.o (by decide));replace j:=U0 (qB j.o o2 s.o (by decide));clear o2 c2;have I:u2.cell? (aA g (k*6+3))=some (vL ai L ci):=by rw[m.o.cell,w_ (show k*6+2≠k*6+3 by omega),w_ (show k*6+1≠k*6+3 by omega),w_ (show k*6≠k*6+3 by omega),R.o k E,z.o])
 clear I;obtain⟨A',B',hr,hA1,hB1,W⟩:=(d.o k E).one hAB;rw[z.o,eL.o]at hr;refine(a4m A' B' (vL ai L ci) L _ _ O0 O0 Z hr).mono ?_;rintro e U⟨⟨rfl,Y⟩,hm⟩;have u:=U0 Y
 replace j:Hid (Ap n vs->∀i,i<k->Mf U 213 [mB,mT,mI,mT] (kQ 5 4 ls K i+3) (vs.getD i undef) (ls.getD i 0)):=λy i b=>(j.o y i b).keep (λq xs I C=>hm.block q C.lt (by
  rcases Z7 q A' with h1|h1
  ·exact .inl h1
  rcases Z7 q B' with h2|h2
  ·have h3:=W q h1 h2;rcases y i k (by omega) E (by omega)with J|J
   ·rw[I]at J;cases J
   exact absurd (I.trans h3.symm) J
  exact .inr h2))
 replace d:=U0 (λi b=>(d.o i b).md hm)
 replace f:=U0 (f.o.trans (hm.mono hA1 hB1 (by simp)))
 replace m:Hid (Cl U g 119 (((ys.set (k*6) (mT (X))).set (k*6+1) (mI (X+1))).set (k*6+2) (mT (X+1+1)))):=(hm.ty g 119 _ m.o (by decide)).trans m.o
 clear hm Y W hA1 hB1 hr
 go_wp2_with(refine Qc rfl 3 _ _ rfl (p:=k*6+4) rfl rfl Y0 m.o (by simp only[Qi];omega) ?_;intro u3 c3 o3;have o:Hid (Cl u3 g 119 ((((ys.set (k*6) (mT (X))).set (k*6+1) (mI (X+1))).set (k*6+2) (mT (X+1+1))).set (k*6+4) (mI (X+1+1+1+4*(L:Int))))):=c3;replace f:=U0 (f.o.on hA hB (by simp) o3 m.o o.o);replace d:=U0 (QB d.o o3 m.o (by decide));replace u:=U0 (u.o.keep (λq xs _ C=>o3.block q (λe=>by subst e;exact absurd (uI C m.o) (by decide))));replace j:=U0 (qB j.o o3 m.o (by decide));clear o3 c3)
 refine(c91 _ _ O0 O0).mono ?_;rintro e w4⟨rfl,l⟩
 replace f:=U0 (f.o.trans (Md.of l))
 replace o:=U0 (o.o.below l o.o.lt)
 replace d:=U0 (λi b=>(d i b).md (Md.of (A:=0) (B:=0) (S:=[]) l))
 replace j:=U0 (λh i b=>(j h i b).below l)
 replace u:=U0 (u.o.below l)
 go_wp2_with(refine Qc rfl 9 _ _ rfl (p:=k*6+5) rfl rfl Y0 o.o (by simp only[Qi];omega) ?_;intro u4 c4 D;have C5:Hid (Cl u4 g 119 (((((ys.set (k*6) (mT (X))).set (k*6+1) (mI (X+1))).set (k*6+2) (mT (X+1+1))).set (k*6+4) (mI (X+1+1+1+4*(L:Int)))).set (k*6+5) (mT (X+1+1+1+4*(L:Int)+1)))):=c4;replace f:=U0 (f.o.on hA hB (by simp) D o.o C5.o);replace d:=U0 (QB d.o D o.o (by decide));replace u:=U0 (u.o.keep (λq xs _ C=>D.block q (λe=>by subst e;exact absurd (uI C o.o) (by decide))));replace j:=U0 (qB j.o D o.o (by decide));clear D c4)
 have V1:Hid (∀i,i<n->((((((ys.set (k*6) (mT (X))).set (k*6+1) (mI (X+1))).set (k*6+2) (mT (X+1+1))).set (k*6+4) (mI (X+1+1+1+4*(L:Int)))).set (k*6+5) (mT (X+1+1+1+4*(L:Int)+1))))[i*6+3]?=some (vs.getD i undef)):=λi b=>by rw[w_ (show k*6+5≠i*6+3 by omega),w_ (show k*6+4≠i*6+3 by omega),w_ (show k*6+2≠i*6+3 by omega),w_ (show k*6+1≠i*6+3 by omega),w_ (show k*6≠i*6+3 by omega)];exact R i b
 have D1:Hid (∀i,i<k+1->∀r x,nE (kQ 5 4 ls K i) (ls.getD i 0) r=some x->((((((ys.set (k*6) (mT (X))).set (k*6+1) (mI (X+1))).set (k*6+2) (mT (X+1+1))).set (k*6+4) (mI (X+1+1+1+4*(L:Int)))).set (k*6+5) (mT (X+1+1+1+4*(L:Int)+1))))[i*6+r]?=some x):=λi b r x hx=>by
  by_cases e:i=k;rotate_left
  ·have hr:r<6:=by
    rcases r with _|_|_|_|_|_|r
    any_goals omega
    cases hx
   rw[w_ (show k*6+5≠i*6+r by omega),w_ (show k*6+4≠i*6+r by omega),w_ (show k*6+2≠i*6+r by omega),w_ (show k*6+1≠i*6+r by omega),w_ (show k*6≠i*6+r by omega)];exact DE i (by omega) r x hx
  replace e:=e.symm
  subst e;rw[N.o,eL.o]at hx
  match r,hx with
  | 0,hx=>rw[Zo (k*6),w_ (show k*6+5≠k*6 by omega),w_ (show k*6+4≠k*6 by omega),w_ (show k*6+2≠k*6 by omega),w_ (show k*6+1≠k*6 by omega),Xk (by omega)];exact hx
  | 1,hx=>rw[w_ (show k*6+5≠k*6+1 by omega),w_ (show k*6+4≠k*6+1 by omega),w_ (show k*6+2≠k*6+1 by omega),Xk (by simp only[Qi];omega)];exact hx
  | 2,hx=>rw[w_ (show k*6+5≠k*6+2 by omega),w_ (show k*6+4≠k*6+2 by omega),Xk (by simp only[Qi];omega)];exact hx
  | 3,hx=>cases hx
  | 4,hx=>rw[w_ (show k*6+5≠k*6+4 by omega),Xk (by simp only[Qi];omega)];exact hx
  | 5,hx=>rw[Xk (by simp only[Qi];omega)];exact hx
 have I1:Hid (Ap n vs->∀i,i<k+1->Mf u4 213 [mB,mT,mI,mT] (kQ 5 4 ls K i+3) (vs.getD i undef) (ls.getD i 0)):=λy i b=>by
  by_cases e:i=k
  ·replace e:=e.symm
   subst e;rw[N.o,eL.o,z.o];have h:=u.o;rwa[show X+1+1+1=X+3 from by omega]at h
  exact j y i (by omega)
 have hl1:n*6<=((((((ys.set (k*6) (mT (X))).set (k*6+1) (mI (X+1))).set (k*6+2) (mT (X+1+1))).set (k*6+4) (mI (X+1+1+1+4*(L:Int)))).set (k*6+5) (mT (X+1+1+1+4*(L:Int)+1)))).length:=by simp only[Qi];exact hl
 go_roundw;exact⟨k+1,_,O0,by go_num,by rw[Q.o];go_num,hl1,f,C5,V1,D1,d,I1⟩;exact V9
