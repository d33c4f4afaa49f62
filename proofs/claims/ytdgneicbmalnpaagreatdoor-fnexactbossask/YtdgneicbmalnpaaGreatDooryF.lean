import Derived.Test.YtdgneicbmalnpaaGreatDooryA
set_option linter.all false
set_option maxHeartbeats 0
set_option maxRecDepth 99999
open Go.Value renaming slice->Sa,string->Sb,int->Sc,pointer->Sd
open Go.IntKind renaming i64->Se
open Go.Ending renaming returned->Sf
namespace Go.Proofs.YtdgneicbmalnpaaGreatDoor
open Proofs.Tryz Go.RowKit
variable{w:World}{a:OA}{is:List T.F2}
theorem c58(x:Jb)(l:Int)(w:World)(h0:0<=l)(h1:l<=1048576)(hs:x.nm.size<=9223372036854775807):
 Calls prog 58 #[.agg #[Sb x.nm,Sc Se x.wk,Sc Se x.un],Sc Se l] w λe w'=>(∃r:Int,e=Sf (Sc Se r)/\(0<=r->x.nm.size<=1048576/\r<=l))/\Bw w w':=by
 by_cases h':l<x.nm.size
 ·go_in
  go_wp2;go_ret;exact⟨⟨-1,rfl,λh=>O0⟩,U6⟩
 go_in
 go_wp2;go_ret;exact⟨⟨_,rfl,λh=>⟨O0,O0⟩⟩,U6⟩
theorem c19(a:OA)(cap:Nat)(is:List Jb)(l:Int)(w:World)(h0:0<=l)(h1:l<=1048576)(hs:∀i,(is.getD i Ea).nm.size<= 9223372036854775807)(hl:is.length<=9223372036854775807)(p:Qj w a is):
 Calls prog 19 #[Sa a is.length cap,Sc Se l] w λe w'=>(∃r:Int,e=Sf (Sc Se r)/\(0<=r->is.length<=1048576/\(∀i,(is.getD i Ea).nm.size<= 1048576)/\r<=1048576))/\Bw w w':=by
 obtain⟨b,off,hc⟩:=Z_ p;have C:=U0 hc;have B:=U0 hs;clear hc p hs;by_cases hbig:l<is.length
 ·go_in
  go_wp2;go_ret;exact⟨⟨-1,rfl,λh=>O0⟩,O4 _ _⟩
 go_in
 go_wp2;go_loopw[1,5] (λt i wr=>∃(k:Nat)(r:Int),k<=is.length/\i=Sc Se k/\t=Sc Se r/\0<=r/\r<=1048576/\Hid (∀i,i<k->(is.getD i Ea).nm.size<= 1048576)/\Below w.heap.size w wr) (λ_ i _=>is.length-(RowKit.intOf i).toNat);exact⟨0,_,Y4 _,rfl,rfl,O0,O0,λi h=>absurd h (U8 _),O4 _ _⟩;obtain⟨k,r,hk,rfl,rfl,y,v,o,c⟩:=hrel;by_cases f:k<is.length;rotate_left
 ·have j:Hid (∀i,(is.getD i Ea).nm.size<= 1048576):=U0 (TS (is:=is) (d:=Ea) (R:=λx=>x.nm.size<= 1048576) U5 (λi h=>o.o i O0));go_wp2;go_ret;exact⟨⟨r,rfl,λ_=>⟨O0,j.o,v⟩⟩,c⟩
 obtain⟨ha,n,g⟩:=Ud C.o f;subst ha;have g0:=((g k f).below n c) 0 _ rfl;have g1:=((g k f).below n c) 1 _ rfl;have g2:=((g k f).below n c) 2 _ rfl;dsimp only[Nat.add_zero]at g0;have u:=B.o k;generalize hx:is.getD k Ea=x at*;have A:=U0 hx;clear hx g
 go_wp2_with fail
 refine(c58 x r wr y O0 u).mono ?_;rintro e w1⟨⟨s,rfl,hr⟩,z⟩;have q:=E5 c z;by_cases hneg:s<0
 ·clear hr;go_wp2;go_ret;exact⟨⟨-1,rfl,λh=>O0⟩,q⟩
 have m:=hr O0;have j:Hid (∀i,i<k+1->(is.getD i Ea).nm.size<= 1048576):=by
  intro i h;rcases Z7 i k with h1|h1
  ·exact o.o i h1
  obtain rfl:i=k:=O0;rw[A.o];exact m.1
 have hr2:=m.2;clear hr m;go_wp2;go_roundw;exact⟨k+1,_,O0,by go_num,rfl,O0,O0,j,q⟩;exact V9
theorem c88(x:Jb)(w:World):
 Calls prog 88 #[.agg #[Sb x.nm,Sc Se x.wk,Sc Se x.un],.agg #[Sb x.nm,Sc Se x.wk,Sc Se x.un]] w λe w'=>e=Sf (.bool true)/\Bw w w':=by
 go_in
 go_wp2;go_ret;exact⟨rfl,U6.alloc J4 _⟩
theorem c42(a o:OA)(cap s:Nat)(is:List Jb)(w:World)(hl:is.length<=1048576)(n:Qj w a is)(m:Qj w o is):
 Calls prog 42 #[Sa a is.length cap,Sa o is.length s] w λe w'=>e=Sf (.bool true)/\Bw w w':=by
 obtain⟨b,off,hc⟩:=Z_ n;have u:=U0 hc;obtain⟨b',off',l⟩:=Z_ m;have t:=U0 l;clear hc n l m
 go_in
 go_wp2;go_loopw[5] (λi wr=>∃(k:Nat),k<=is.length/\i=Sc Se k/\Below w.heap.size w wr) (λi _=>is.length-(RowKit.intOf i).toNat);exact⟨0,Y4 _,rfl,O4 _ _⟩;obtain⟨k,hk,rfl,c⟩:=hrel;by_cases d:k<is.length;rotate_left
 ·go_wp2;go_ret;exact⟨rfl,c⟩
 obtain⟨ha,j,g⟩:=Ud u.o d;obtain⟨r,h,f⟩:=Ud t.o d;subst ha;subst r;have g0:=((g k d).below j c) 0 _ rfl;have g1:=((g k d).below j c) 1 _ rfl;have g2:=((g k d).below j c) 2 _ rfl;dsimp only[Nat.add_zero]at g0;have p:=((f k d).below h c) 0 _ rfl;have p1:=((f k d).below h c) 1 _ rfl;have p2:=((f k d).below h c) 2 _ rfl;dsimp only[Nat.add_zero]at p;generalize is.getD k Ea=x at*;clear g f
 go_wp2_with fail
 go_region_with(go_at_call 88;refine(c88 x _).mono ?_;rintro e w1⟨rfl,q⟩)
 all_goals go_wp2
 all_goals go_roundw
 all_goals first
  | exact⟨k+1,O0,by go_num,(c.drew).trans (q.mono c.size)⟩
  | (exact V9)
def fiE(x:T.F2):List Value:=[Sb x.nm,Sb x.tx]
def nP(w:World)(a:OA)(is:List T.F2):Prop:=iy w a is T.o9 2 λw b o x=>Bc w b o (fiE x)
theorem QZ(h:T.P6 w a is):nP w a is:=by
 rcases h with h|⟨b,off,h1,h2,d⟩
 ·exact .inl h
 refine .inr ⟨b,off,h1,h2,λi c q v e=>?_⟩
 match q,e with
 | 0,e=>cases e;exact(d i c).1
 | 1,e=>cases e;exact(d i c).2
theorem a3J(h:nP w a is):T.P6 w a is:=by
 rcases h with h|⟨b,off,h1,h2,d⟩
 ·exact .inl h
 exact .inr ⟨b,off,h1,h2,λi c=>⟨d i c 0 _ rfl,d i c 1 _ rfl⟩⟩
theorem a4y(x:T.F2)(l:Int)(w:World)(h0:0<=l)(h1:l<=1048576)(hs:x.le 9223372036854775807):
 Calls prog 104 #[.agg #[Sb x.nm,Sb x.tx],Sc Se l] w λe w'=>(∃r:Int,e=Sf (Sc Se r)/\(0<=r->x.le 1048576/\r<=l))/\Bw w w':=by
 obtain⟨s1,s2⟩:=hs;by_cases h':l<x.nm.size
 ·go_in
  go_wp2;go_ret;exact⟨⟨-1,rfl,λh=>O0⟩,U6⟩
 by_cases h2:l-x.nm.size<x.tx.size
 ·go_in
  go_wp2;go_ret;exact⟨⟨-1,rfl,λh=>O0⟩,U6⟩
 go_in
 go_wp2;go_ret;exact⟨⟨_,rfl,λh=>⟨⟨O0,O0⟩,O0⟩⟩,U6⟩
theorem c55(a:OA)(cap:Nat)(is:List T.F2)(l:Int)(w:World)(h0:0<=l)(h1:l<=1048576)(hs:∀i,(is.getD i T.o9).le 9223372036854775807)(hl:is.length<=9223372036854775807)(p:nP w a is):
 Calls prog 55 #[Sa a is.length cap,Sc Se l] w λe w'=>(∃r:Int,e=Sf (Sc Se r)/\(0<=r->is.length<=1048576/\(∀i,(is.getD i T.o9).le 1048576)/\r<=1048576))/\Bw w w':=by
 obtain⟨b,off,hc⟩:=Z_ p;have C:=U0 hc;have B:=U0 hs;clear hc p hs;by_cases hbig:l<is.length
 ·go_in
  go_wp2;go_ret;exact⟨⟨-1,rfl,λh=>O0⟩,O4 _ _⟩
 go_in
 go_wp2;go_loopw[1,5] (λt i wr=>∃(k:Nat)(r:Int),k<=is.length/\i=Sc Se k/\t=Sc Se r/\0<=r/\r<=1048576/\Hid (∀i,i<k->(is.getD i T.o9).le 1048576)/\Below w.heap.size w wr) (λ_ i _=>is.length-(RowKit.intOf i).toNat);exact⟨0,_,Y4 _,rfl,rfl,O0,O0,λi h=>absurd h (U8 _),O4 _ _⟩;obtain⟨k,r,hk,rfl,rfl,y,v,n,c⟩:=hrel;by_cases j:k<is.length;rotate_left
 ·have f:Hid (∀i,(is.getD i T.o9).le 1048576):=U0 (TS (is:=is) (d:=T.o9) (R:=λx=>x.le 1048576) ⟨U5,U5⟩ (λi h=>n.o i O0));go_wp2;go_ret;exact⟨⟨r,rfl,λ_=>⟨O0,f.o,v⟩⟩,c⟩
 obtain⟨ha,o,m⟩:=Ud C.o j;subst ha;have g0:=((m k j).below o c) 0 _ rfl;have g1:=((m k j).below o c) 1 _ rfl;dsimp only[Nat.add_zero]at g0;have u:=B.o k;generalize hx:is.getD k T.o9=x at*;have A:=U0 hx;clear hx m
 go_wp2_with fail
 refine(a4y x r wr y O0 u).mono ?_;rintro e w1⟨⟨s,rfl,hr⟩,z⟩;have q:=E5 c z;by_cases hneg:s<0
 ·clear hr;go_wp2;go_ret;exact⟨⟨-1,rfl,λh=>O0⟩,q⟩
 have g:=hr O0;have f:Hid (∀i,i<k+1->(is.getD i T.o9).le 1048576):=by
  intro i h;rcases Z7 i k with h1|h1
  ·exact n.o i h1
  obtain rfl:i=k:=O0;rw[A.o];exact g.1
 have hr2:=g.2;clear hr g;go_wp2;go_roundw;exact⟨k+1,_,O0,by go_num,rfl,O0,O0,f,q⟩;exact V9
theorem c14(a:OA)(cap:Nat)(is:List T.F2)(l:Int)(w:World)(h0:0<=l)(h1:l<=1048576)(hs:∀i,(is.getD i T.o9).le 9223372036854775807)(hl:is.length<=9223372036854775807)(c:T.P6 w a is):
 Calls prog 14 #[.agg #[Sa a is.length cap],Sc Se l] w λe w'=>(∃r:Int,e=Sf (Sc Se r)/\(0<=r->is.length<=1048576/\(∀i,(is.getD i T.o9).le 1048576)/\r<=1048576))/\Bw w w':=by
 have hc:=c55 a cap is l _ h0 h1 hs hl (QZ (T.J5 c (U6 (o:=.cells #[vL a is.length cap] 27))));clear hs c
 go_in
 go_wp2_with fail
 refine hc.mono ?_;rintro e w1⟨⟨r,rfl,hr⟩,b⟩;have f:=U0 hr;have d:=U0 (E5 U6 b);clear hc hr b;by_cases hn:r<0
 ·go_wp2;go_ret;exact⟨⟨-1,rfl,λh=>O0⟩,d.o⟩
 go_wp2;go_ret;exact⟨⟨_,rfl,f.o⟩,d.o⟩
structure TB(w:World)(ta tr:TypeId)(ar zs xs:List Value)(P:World->Prop)(V:World):Prop where
 bel:Bw w V
 sz:w.heap.size+3<=V.heap.size
 ca:Cl V w.heap.size ta ar
 cr:Cl V (w.heap.size+1) tr zs
 co:Cl V (w.heap.size+1+1) tr xs
 kp:Kp (w.heap.size+3) V P
section
variable{w V V1:World}{ta tr:TypeId}{ar zs xs xs':List Value}{P Q:World->Prop}
theorem Uj:TB w ta tr ar zs zs (λ_=>True) (((w.alloc (.cells ar.toArray ta)).alloc (.cells zs.toArray tr)).alloc (.cells zs.toArray tr)):=
 ⟨(U6.alloc J4 _).alloc L8 _,J4,E8 (E8 (I4 w ar ta) _) _,E8 (by have h:=I4 (w.alloc (.cells ar.toArray ta)) zs tr;simpa using h) _,by have h:=I4 ((w.alloc (.cells ar.toArray ta)).alloc (.cells zs.toArray tr)) zs tr;simpa using h,λ_ _ _=>trivial⟩
theorem TB.put(h:TB w ta tr ar zs xs P V)(j:Nat)(v:Value):TB w ta tr ar zs (xs.set j v) P (V.setCell ⟨w.heap.size+1+1,j,none⟩ v):=
 have o:=u_ V (w.heap.size+1+1) j v
 ⟨h.bel.trans (o.below O0),by have:=h.sz;have:=o.size;omega,h.ca.on o O0,h.cr.on o O0,h.co.set j v,h.kp.on o O0⟩
theorem TB.on(h:TB w ta tr ar zs xs P V)(o:Jr (w.heap.size+1+1) V V1)(c:Cl V1 (w.heap.size+1+1) tr xs'):TB w ta tr ar zs xs' P V1:=
 ⟨h.bel.trans (o.below O0),by have:=h.sz;have:=o.size;omega,h.ca.on o O0,h.cr.on o O0,c,h.kp.on o O0⟩
theorem TB.call(h:TB w ta tr ar zs xs P V)(a:Bw V V1)(b:Kp V.heap.size V1 Q):TB w ta tr ar zs xs (λu=>P u/\Q u) V1:=
 ⟨E5 h.bel a,X7 h.sz a.size,h.ca.below a h.ca.lt,h.cr.below a h.cr.lt,h.co.below a h.co.lt,λu h1 h2=>⟨h.kp.below a u h1 h2,b.low h.sz u h1 h2⟩⟩
theorem TB.end_{z:World}(h:TB w ta tr ar zs xs P V)(o:Jr (w.heap.size+1) V z):Kp w.heap.size z P/\Bw w z:=⟨(h.kp.on o O0).low O0,h.bel.trans (o.below O0)⟩
end
end Go.Proofs.YtdgneicbmalnpaaGreatDoor
namespace Go.Proofs.YtdgneicbmalnpaaGreatDoor
open Proofs.Tryz Go.RowKit
def Zf(w:World)(a:OA)(ss:List Int):Prop:=
 ss=[]\/∃b off,a=some ⟨b,off,none⟩/\b<w.heap.size/\∀i,i<ss.length->w.cell? ⟨b,off+i,none⟩=some (Sc Se (ss.getD i 0))
theorem Vg{w:World}{a:OA}{ss:List Int}(h:Zf w a ss):∃b off,(ss=[]\/(a=some ⟨b,off,none⟩/\b<w.heap.size/\∀i,i<ss.length->w.cell? ⟨b,off+i,none⟩=some (Sc Se (ss.getD i 0)))):=by
 rcases h with h|⟨b,off,h⟩
 ·exact⟨0,0,.inl h⟩
 exact⟨b,off,.inr h⟩
theorem Uh{w w':World}{a:OA}{ss:List Int}(h:Zf w a ss)(c:Bw w w'):Zf w' a ss:=by
 rcases h with h|⟨b,off,h1,h2,e⟩
 ·exact .inl h
 exact .inr ⟨b,off,h1,P9 h2 c.size,λi d=>by rw[c.cell (by exact h2)];exact e i d⟩
theorem a3o:(prog.info? 3).map (λi=>(i.zero,i.size,i.bytes))=some (some (Sc Se 0),1,8):=Y0
theorem c39(a l:OA)(cap n:Nat)(ss:List Int)(w:World)(hl:ss.length<=1048576)(j:Zf w a ss)(h:Zf w l ss):
 Calls prog 39 #[Sa a ss.length cap,Sa l ss.length n] w λe w'=>e=Sf (.bool true)/\Bw w w':=by
 obtain⟨b,off,hc⟩:=Vg j;have p:=U0 hc;clear hc j;obtain⟨b',off',g⟩:=Vg h;have o:=U0 g;clear g h
 go_in
 go_wp2;go_loopw[5] (λi wr=>∃(k nq:Nat),k<=ss.length/\i=Sc Se k/\wr=w.drewN nq) (λi _=>ss.length-(RowKit.intOf i).toNat);exact⟨0,0,Y4 _,rfl,rfl⟩;obtain⟨k,nq,hk,rfl,rfl⟩:=hrel;by_cases c:k<ss.length
 ·obtain⟨ha,hbw,f⟩:=Ud p.o c;obtain⟨m,a8a,d⟩:=Ud o.o c;subst ha;subst m;have g0:=f k c;have g1:=d k c;generalize ss.getD k 0=x at*;clear f d
  go_wp2_with fail
  go_quiet (fail)
  go_wp2;go_roundw;exact⟨k+1,_,O0,by go_num,rfl⟩;exact V9
 go_wp2;go_ret;exact⟨rfl,below_drewN _⟩
theorem c16(a:OA)(cap n:Nat)(l:Int)(w:World)(h0:0<=l)(h1:l<=1048576)(hn:n<=9223372036854775807):
 Calls prog 16 #[Sa a n cap,Sc Se l] w λe w'=>(∃r:Int,e=Sf (Sc Se r)/\(0<=r->n<=1048576/\r<=l))/\w'=w:=by
 by_cases h:l<n
 ·go_in
  go_wp2;go_ret;exact⟨⟨-1,rfl,λh=>O0⟩,rfl⟩
 go_in
 go_wp2;go_ret;exact⟨⟨_,rfl,λh=>⟨O0,O0⟩⟩,rfl⟩
theorem c160(n:Int)(w:World):
 Calls prog 160 #[Sc Se n] w λe w'=>e=Sf (.bool (decide (1<=n/\n<=4)))/\w'=w:=by
 by_cases h1:1<=n<;>by_cases h2:n<=4
 all_goals
  go_in
  go_wp2;go_ret;exact⟨by simp[h1,h2],rfl⟩
def OwN(A B:Nat)(u:World)(a:OA)(t:TypeId)(n m j:Nat)(ti:TypeId)(c:Nat):Prop:=∃g,a=some ⟨g,0,none⟩/\A<=g/\g<B/\XI B u g t (n*m) n m j ti c
def mT(i:Int):Value:=Sb (U3 (109::dec i))
def mI(i:Int):Value:=Sc Se i
def InO(u:World)(g n m j:Nat)(ti:TypeId)(c:Nat):Prop:=∀i,i<n->∃ai ni ci,u.cell? ⟨g,i*m+j,none⟩=some (Sa ai ni ci)/\ni<=1048576/\Vy (g+1) u ai ti (ni*c)
def qw{α:Type}(is:List α)(f:α->List Value)(z:List Value)(k:Nat):List Value:=(is.take k).flatMap f++zs z (is.length-k)
section
variable{α β:Type}{A A' b g n m j c k:Nat}{u w:World}{a:OA}{t ti:TypeId}{xs z:List Value}{v:Value}{f:α->List Value}{is:List α}{d:α}
theorem Vy.one(h:Vy A u a t (n*1))(h1:A'<=A):Vy A' u a t n:=by
 rw[Pm]at h;exact h.mono h1
theorem AU{L:World->Prop}(h:Kp b w (λu=>L u/\Vy A u a t m))(h1:A'<=A):Kp b w (λu=>L u/\Vy A' u a t m):=h.imp λu k=>⟨k.1,k.2.mono h1⟩
theorem LU{L:World->Prop}(h:Kp b w (λu=>L u/\Vy A u a t (n*1)))(h1:A'<=A):Kp b w (λu=>L u/\Vy A' u a t n):=h.imp λu k=>⟨k.1,k.2.one h1⟩
theorem a4e{L I:World->Prop}(h:Kp b w (λu=>L u/\Vy A u a t m/\I u))(h1:A'<=A):Kp b w (λu=>L u/\Vy A' u a t m/\I u):=h.imp λu k=>⟨k.1,k.2.1.mono h1,k.2.2⟩
theorem Vy.ow(h:Vy A u a t m):Ow A u.heap.size u a t m:=by
 obtain⟨g,xs,h1,h2,b,c⟩:=h;exact⟨g,xs,h1,h2,b.lt,b,c⟩
theorem a3G(h:Vy A u (some ⟨g,0,none⟩) t (n*m))(h2:InO u g n m j ti c):OwN A u.heap.size u (some ⟨g,0,none⟩) t n m j ti c:=by
 obtain⟨q,xs,e,p,a,o⟩:=h;cases e;refine⟨g,rfl,p,a.lt,⟨xs,a,o⟩,λi l=>?_⟩;obtain⟨s,b,r,k,f,d⟩:=h2 i l;exact⟨s,b,r,k,f,d.ow⟩
theorem Ny{T e:TypeId}{a:Value}{b:Nat}(j:prog.underlying T=some (.slice e))(l:(prog.info? e).map (λi=>(i.zero,i.size,i.bytes))=some (some a,m,b))(hz:a.cells=z.toArray)(hm:z.length=m)(o:b<=1000)(k:n<=1048576)(u:World):
 (Instr.makeSlice T (Sc Se (n:Int)) (Sc Se (n:Int))).run prog u=.ok (Sa (some ⟨u.heap.size,0,none⟩) n n) (u.alloc (.cells (zs z n).toArray e)):=by
 obtain⟨c,h0,g,f,d⟩:=info_parts l;have:b*n<=1000*1048576:=Nat.mul_le_mul o k;have h:=run_make (P:=prog) u T e c a j h0 g .i64 .i64 (n:Int) (n:Int) O0 (Int.le_refl _) (by rw[d,<- Int.natCast_mul];omega) O0;rw[<- PK];simpa[f,hz,hm]using h
theorem Vm(hf:∀x,(f x).length=m)(hz:z.length=m)(hk:k<is.length):k*m+(f (is.getD k d)).length<=(qw is f z k).length/\Dp (qw is f z k) (k*m) (f (is.getD k d))=qw is f z (k+1):=by
 have a:((is.take k).flatMap f).length=k*z.length:=by rw[Hg hf,L_,Ot O0,hz]
 have h1:=GU (vs:=f (is.getD k d)) a ((hf _).trans hz.symm) hk;have h2:=nR (vs:=f (is.getD k d)) a ((hf _).trans hz.symm) hk;rw[hz]at h1 h2;exact⟨h1,h2.trans (by unfold qw;rw[LK (d:=d) hk])⟩
theorem FN{l:List Value}(hk:k<l.length):l.set k v=Dp l k [v]:=by
 unfold Dp;rw[List.set_eq_take_append_cons_drop,D8 hk];simp
theorem Jm{LS:World->OA->List α->Prop}(hf:∀x,(f x).length=m)(k:∀u a is,iy u a is d m (λw b o x=>Bc w b o (f x))->LS u a is)(h:Cl w g t (qw is f z is.length)):au g w LS t m is (Sa (some ⟨g,0,none⟩) is.length is.length):=by
 unfold qw at h;rw[Xt,Uw]at h;have hl:=Hg hf is;exact⟨_,_,rfl,A8,(a2D h A8).imp (λu c=>⟨k _ _ _ (.inr ⟨g,0,rfl,c.lt,λi j=>a0q c (λq v e=>by
  have:q<m:=by have:=(ah.1 e).1;rwa[hf]at this
  have:i*m+m<=is.length*m:=by rw[<- ak];exact Ro _ j
  rw[Y8,D_ O0];exact Gf hf is i j q v e)⟩),g,_,rfl,A8,c,by rw[Q9];omega⟩)⟩
def a1V(b:Nat)(w:World)(LS:World->OA->List α->Prop)(t:TypeId)(m j:Nat)(ti:TypeId)(c:Nat)(is:List α)(v:Value):Prop:=∃g cp,v=Sa (some ⟨g,0,none⟩) is.length cp/\Kp b w (λu=>LS u (some ⟨g,0,none⟩) is/\Vy b u (some ⟨g,0,none⟩) t (is.length*m)/\InO u g is.length m j ti c)
theorem iL{f:α×Value->List Value}{ps:List (α×Value)}(hf:∀x,(f x).length=m)(hz:z.length=m)(b:ps.map Prod.fst=is.take k)(hk:k<is.length)(v:Value):
 (ps++[(is.getD k d,v)]).map Prod.fst=is.take (k+1)/\k*m+(f (is.getD k d,v)).length<=(ps.flatMap f++zs z (is.length-k)).length/\Dp (ps.flatMap f++zs z (is.length-k)) (k*m) (f (is.getD k d,v))=(ps++[(is.getD k d,v)]).flatMap f++zs z (is.length-(k+1)):=by
 have hl:ps.length=k:=by have:=G7 List.length b;simp at this;omega
 have a:(ps.flatMap f).length=k*z.length:=by rw[Hg hf,hl,hz]
 have h1:=GU (vs:=f (is.getD k d,v)) a ((hf _).trans hz.symm) hk;have h2:=nR (vs:=f (is.getD k d,v)) a ((hf _).trans hz.symm) hk;rw[hz]at h1 h2;refine⟨?_,h1,h2.trans (by rw[Vo,List.flatMap_singleton])⟩;rw[Nl,b,Oq,V8 hk];simp[List.getD,V8 hk]
theorem ML{LS:World->OA->List β->Prop}{RS:World->OA->List α->Prop}{inn:α->List β}{f:α×Value->List Value}{ps:List (α×Value)}(hf:∀x,(f x).length=m)(A:∀p,(f p)[j]?=some p.2)(hs:∀i,(inn (is.getD i d)).length<=1048576)
 (hR:∀u g,g<u.heap.size->(∀i,i<is.length->∃a e,Bc u g (0+i*m) (f (is.getD i d,.slice a (inn (is.getD i d)).length e))/\LS u a (inn (is.getD i d)))->RS u (some ⟨g,0,none⟩) is)
 (n:ps.map Prod.fst=is.take is.length) (h:Cl w g t (ps.flatMap f++zs z (is.length-is.length))) (D:∀p∈ps,au (g+1) w LS ti c (inn p.1) p.2):a1V g w RS t m j ti c is (Sa (some ⟨g,0,none⟩) is.length is.length):=by
 rw[Xt]at n;have hl:ps.length=is.length:=by have:=G7 List.length n;simpa using this
 have B:Kp g w (λu=>Cl u g t (ps.flatMap f++zs z (is.length-is.length))/\∀i,i<is.length->∃a e,Bc u g (0+i*m) (f (is.getD i d,vL a (inn (is.getD i d)).length e))/\LS u a (inn (is.getD i d))/\Vy (g+1) u a ti ((inn (is.getD i d)).length*c)):=λu h1 h2=>by
  have b:=(h2 g A8 h.lt).trans h;refine⟨b,λi k=>?_⟩;obtain⟨v,hv,hB⟩:=EX (d:=d) hf b (i:=i) O0;rw[n]at hv hB;obtain⟨F,E,r,_,o⟩:=D _ hv;dsimp only at r o;subst r;have C:=o u h1 (λq hq=>h2 q O0);exact⟨F,E,hB,C⟩
 refine⟨g,_,rfl,B.imp λu b=>⟨hR u g b.1.lt (λi k=>?_),⟨g,_,rfl,A8,b.1,?_⟩,λi k=>?_⟩⟩
 ·obtain⟨a,e,l,y,_⟩:=b.2 i k;exact⟨a,e,l,y⟩
 ·rw[Q9,Hg hf,hl];omega
 obtain⟨a,e,l,_,s⟩:=b.2 i k;exact⟨a,_,e,by have:=l j _ (A _);rwa[Y8]at this,hs i,s⟩
