import Derived.Test.YtchjpjmcnhjbcaaGreatDooryA
set_option linter.unusedVariables false
set_option maxHeartbeats 8000000
set_option maxRecDepth 100000
namespace Go.Proofs.YtchjpjmcnhjbcaaGreatDoor
open Proofs.Tryz Go.RowKit
variable {w:World} {g n:Nat} {t:TypeId} {f:Int->Value} {K:Int}
theorem c53 (x:Jb) (l:Int) (w:World) (h0:0<=l) (h1:l<=1048576) (hs:x.nm.size<=9223372036854775807):
 Calls prog 53 #[.agg #[.string x.nm,.int .i64 x.wk,.int .i64 x.un],.int .i64 l] w fun e w'=>(∃ r:Int,e=.returned (.int .i64 r)/\(0<=r->x.nm.size<=1048576/\r<=l))/\Bw w w':=by
 by_cases h':l<x.nm.size
 · go_enter func53,ntmps53;go_wp2;go_ret;exact ⟨⟨-1,rfl,fun h=>O0⟩,P6⟩
 · go_enter func53,ntmps53;go_wp2;go_ret;exact ⟨⟨_,rfl,fun h=>⟨O0,O0⟩⟩,P6⟩
theorem c17 (a:OA) (B:Nat) (is:List Jb) (l:Int) (w:World) (h0:0<=l) (h1:l<=1048576) (p:∀ i,(is.getD i Jc).nm.size<= 9223372036854775807) (hl:is.length<=9223372036854775807) (q:Bl w a is):
 Calls prog 17 #[.slice a is.length B,.int .i64 l] w fun e w'=>(∃ r:Int,e=.returned (.int .i64 r)/\(0<=r->is.length<=1048576/\(∀ i,(is.getD i Jc).nm.size<= 1048576)/\r<=1048576))/\Bw w w':=by
 obtain ⟨b,off,hc⟩:=N_ q;have E:=U0 hc;have D:=U0 p;clear hc q p;by_cases hbig:l<is.length
 · go_enter func17,ntmps17;go_wp2;go_ret;exact ⟨⟨-1,rfl,fun h=>O0⟩,Z4 _ _⟩
 go_enter func17,ntmps17
 go_wp2_with fail
 go_loopw [1,5] (fun u i wr=>∃ (k:Nat) (r:Int),k<=is.length/\i=.int .i64 k/\u=.int .i64 r/\0<=r/\r<=1048576/\Hid (∀ i,i<k->(is.getD i Jc).nm.size<= 1048576)/\Below w.heap.size w wr) (fun _ i _=>is.length - (RowKit.intOf i).toNat)
 case atStart=>exact ⟨0,_,J4 _,rfl,rfl,O0,O0,fun i h=>absurd h (J8 _),Z4 _ _⟩
 case round=>
  obtain ⟨k,r,hk,rfl,rfl,z,y,o,c⟩:=hrel;by_cases f:k<is.length;rotate_left
  · have j:Hid (∀ i,(is.getD i Jc).nm.size<= 1048576):=U0 (ZP (is:=is) (d:=Jc) (R:=fun x=>x.nm.size<= 1048576) o6 (fun i h=>o.out i O0));go_wp2;go_ret;exact ⟨⟨r,rfl,fun _=>⟨O0,j.out,y⟩⟩,c⟩
  obtain ⟨ha,n,g⟩:=Cc E.out f;subst ha;have g0:=((g k f).below n c) 0 _ rfl;have g1:=((g k f).below n c) 1 _ rfl;have g2:=((g k f).below n c) 2 _ rfl;dsimp only [Nat.add_zero] at g0;have v:=D.out k;generalize hx:is.getD k Jc=x at*;have C:=U0 hx;clear hx g
  go_wp2_with fail
  refine (c53 x r wr z O0 v).mono ?_;rintro e w1 ⟨⟨t,rfl,hr⟩,A⟩;have s:=X5 c A;by_cases hneg:t<0
  · clear hr;go_wp2;go_ret;exact ⟨⟨-1,rfl,fun h=>O0⟩,s⟩
  have m:=hr O0;have j:Hid (∀ i,i<k+1->(is.getD i Jc).nm.size<= 1048576):=by
   intro i h;rcases Q7 i k with h1 | h1
   · exact o.out i h1
   · obtain rfl:i=k:=O0;rw [C.out];exact m.1
  have hr2:=m.2;clear hr m;go_wp2;go_roundw
  case rel=>exact ⟨k+1,_,O0,by go_num,rfl,O0,O0,j,s⟩
  case measure=>simp [RowKit.intOf];omega
theorem c83 (x:Jb) (w:World):
 Calls prog 83 #[.agg #[.string x.nm,.int .i64 x.wk,.int .i64 x.un],.agg #[.string x.nm,.int .i64 x.wk,.int .i64 x.un]] w fun e w'=>e=.returned (.bool true)/\Bw w w':=by
 go_enter func83,ntmps83;go_wp2;go_ret;exact ⟨rfl,P6.alloc X4 _⟩
theorem c35 (a o:OA) (t s:Nat) (is:List Jb) (w:World) (hl:is.length<=1048576) (n:Bl w a is) (m:Bl w o is):
 Calls prog 35 #[.slice a is.length t,.slice o is.length s] w fun e w'=>e=.returned (.bool true)/\Bw w w':=by
 obtain ⟨b,off,hc⟩:=N_ n;have v:=U0 hc;obtain ⟨b',off',l⟩:=N_ m;have u:=U0 l;clear hc n l m;go_enter func35,ntmps35
 go_wp2_with fail
 go_loopw [5] (fun i wr=>∃ (k:Nat),k<=is.length/\i=.int .i64 k/\Below w.heap.size w wr) (fun i _=>is.length - (RowKit.intOf i).toNat)
 case atStart=>exact ⟨0,J4 _,rfl,Z4 _ _⟩
 case round=>
  obtain ⟨k,hk,rfl,c⟩:=hrel;by_cases d:k<is.length;rotate_left
  · go_wp2;go_ret;exact ⟨rfl,c⟩
  obtain ⟨ha,j,g⟩:=Cc v.out d;obtain ⟨r,h,f⟩:=Cc u.out d;subst ha;subst r;have g0:=((g k d).below j c) 0 _ rfl;have g1:=((g k d).below j c) 1 _ rfl;have g2:=((g k d).below j c) 2 _ rfl;dsimp only [Nat.add_zero] at g0;have p:=((f k d).below h c) 0 _ rfl;have p1:=((f k d).below h c) 1 _ rfl;have p2:=((f k d).below h c) 2 _ rfl;dsimp only [Nat.add_zero] at p;generalize is.getD k Jc=x at*;clear g f
  go_wp2_with fail
  go_region_with (go_at_call 83;refine (c83 x _).mono ?_;rintro e w1 ⟨rfl,q⟩)
  all_goals go_wp2
  all_goals go_roundw
  all_goals first
   | exact ⟨k+1,O0,by go_num,(c.drew).trans (q.mono c.size)⟩
   | (simp [RowKit.intOf];omega)
def kU (A B:Nat) (u:World) (a:OA) (t:TypeId) (n m j:Nat) (ti:TypeId) (c:Nat):Prop:=∃ g,a=some ⟨g,0,none⟩/\A<=g/\g<B/\Ot B u g t (n*m) n m j ti c
def mT (i:Int):Value:=.string (J3 (109::dec i))
def mI (i:Int):Value:=.int .i64 i
/-- A row that was marked. -/
def QT (w:World) (g:Nat) (t:TypeId) (f:Int->Value) (K:Int) (n:Nat):Prop:=∃ ys,Cl w g t ys/\∀ j,j<n->ys[j]?=some (f (K+(j:Int)))
theorem QT.keep {w':World} (h:QT w g t f K n) (e:w'.heap[g]?=w.heap[g]?):QT w' g t f K n:=by
 obtain ⟨ys,h1,h2⟩:=h;exact ⟨ys,e.trans h1,h2⟩
theorem QT.lt (h:QT w g t f K n):g<w.heap.size:=by
 obtain ⟨ys,h1,h2⟩:=h;exact h1.lt
theorem qL {ys:List Value} {k j:Nat} (h:∀ j,j<k->ys[j]?=some (f (K+(j:Int)))) (a:k<ys.length) (hj:j<k+1):(ys.set k (f (K+(k:Int))))[j]?=some (f (K+(j:Int))):=by
 by_cases e:j=k
 · subst e;exact VH a
 rw [jD O0];exact h j O0
theorem c39 (A B g l:Nat) (n:Nat) (K:Int) (w:World) (t:TypeId) (xs:List Value) (h1:1<=K) (h2:K<=90000000000000) (hn:n<=1048576) (hA:A<=g) (hB:g<B) (ho:Cl w g t xs) (hl:n<=xs.length):
 Calls prog 39 #[.slice (some ⟨g,0,none⟩) n l,.int .i64 K] w fun e w'=>e=.returned (.int .i64 (K+(n:Int)))/\Md A B [t] w w'/\QT w' g t mI K n:=by
 have m:=U0 ho;clear ho;go_enter func39,ntmps39
 go_wp2_with fail
 go_loopw [1,5] (fun q i wr=>∃ (k:Nat) (ys:List Value),k<=n/\i=.int .i64 k/\q=.int .i64 (K+(k:Int))/\n<=ys.length/\Hid (Md A B [t] w wr)/\Hid (Cl wr g t ys)/\Hid (∀ j,j<k->ys[j]?=some (mI (K+(j:Int))))) (fun _ i _=>n - (RowKit.intOf i).toNat)
 case atStart=>exact ⟨0,xs,J4 _,rfl,X4,hl,Md.refl,m,fun j h=>absurd h (J8 _)⟩
 case round=>
  obtain ⟨k,ys,hk,rfl,rfl,hl,a,b,c⟩:=hrel;by_cases hlt:k<n;rotate_left
  · obtain rfl:k=n:=O0;go_wp2;go_ret;exact ⟨rfl,a.out,ys,b.out,c.out⟩
  go_wp2_with (refine Uz rfl 3 _ _ rfl (p:=k) rfl rfl Y2 b.out O0 ?_;intro u d o1;replace a:=U0 (a.out.on hA hB (by simp) o1 b.out d);clear o1)
  go_roundw
  case rel=>exact ⟨k+1,_,O0,by go_num,by go_num,by rw [pI];exact hl,a,d,fun j f=>qL c.out O0 f⟩
  case measure=>simp [RowKit.intOf];omega
theorem c40 (A B g m:Nat) (n:Nat) (K:Int) (w:World) (t:TypeId) (xs:List Value) (h1:1<=K) (h2:K<=90000000000000) (hn:n<=1048576) (hA:A<=g) (hB:g<B) (ho:Cl w g t xs) (hl:n<=xs.length):
 Calls prog 40 #[.slice (some ⟨g,0,none⟩) n m,.int .i64 K] w fun e w'=>e=.returned (.int .i64 (K+(n:Int)))/\Md A B [t] w w'/\QT w' g t mT K n:=by
 have o:=U0 ho;clear ho;go_enter func40,ntmps40
 go_wp2_with fail
 go_loopw [1,5] (fun q i wr=>∃ (k:Nat) (ys:List Value),k<=n/\i=.int .i64 k/\q=.int .i64 (K+(k:Int))/\n<=ys.length/\Hid (Md A B [t] w wr)/\Hid (Cl wr g t ys)/\Hid (∀ j,j<k->ys[j]?=some (mT (K+(j:Int))))) (fun _ i _=>n - (RowKit.intOf i).toNat)
 case atStart=>exact ⟨0,xs,J4 _,rfl,X4,hl,Md.refl,o,fun j h=>absurd h (J8 _)⟩
 case round=>
  obtain ⟨k,ys,hk,rfl,rfl,hl,a,b,d⟩:=hrel;by_cases hlt:k<n;rotate_left
  · obtain rfl:k=n:=O0;go_wp2;go_ret;exact ⟨rfl,a.out,ys,b.out,d.out⟩
  go_wp2_with fail
  refine (c86 _ _ O0 O0).mono ?_;rintro e w1 ⟨rfl,c⟩
  replace a:=U0 (a.out.trans (Md.of c))
  replace b:=U0 (b.out.below c b.out.lt)
  clear c
  go_wp2_with (refine Uz rfl 9 _ _ rfl (p:=k) rfl rfl Y2 b.out O0 ?_;intro u f o1;replace a:=U0 (a.out.on hA hB (by simp) o1 b.out f);clear o1)
  go_roundw
  case rel=>exact ⟨k+1,_,O0,by go_num,by go_num,by rw [pI];exact hl,a,f,fun j l=>qL d.out O0 l⟩
  case measure=>simp [RowKit.intOf];omega
def InO (u:World) (g n m j:Nat) (ti:TypeId) (c:Nat):Prop:=∀ i,i<n->∃ ai ni ci,u.cell? ⟨g,i*m+j,none⟩=some (.slice ai ni ci)/\ni<=1048576/\qw (g+1) u ai ti (ni*c)
def Jt {α:Type} (is:List α) (f:α->List Value) (z:List Value) (k:Nat):List Value:=(is.take k).flatMap f++zs z (is.length - k)
section
variable {α β:Type} {A A' b g n m j c k:Nat} {u w:World} {a:OA} {t ti:TypeId} {xs z:List Value} {v:Value} {f:α->List Value} {is:List α} {d:α}
theorem qw.one (h:qw A u a t (n*1)) (h1:A'<=A):qw A' u a t n:=by
 rw [Zy] at h;exact h.mono h1
theorem oP {L:World->Prop} (h:Kp b w (fun u=>L u/\qw A u a t m)) (h1:A'<=A):Kp b w (fun u=>L u/\qw A' u a t m):=h.imp fun u k=>⟨k.1,k.2.mono h1⟩
theorem YQ {L:World->Prop} (h:Kp b w (fun u=>L u/\qw A u a t (n*1))) (h1:A'<=A):Kp b w (fun u=>L u/\qw A' u a t n):=h.imp fun u k=>⟨k.1,k.2.one h1⟩
theorem a1r {L I:World->Prop} (h:Kp b w (fun u=>L u/\qw A u a t m/\I u)) (h1:A'<=A):Kp b w (fun u=>L u/\qw A' u a t m/\I u):=h.imp fun u k=>⟨k.1,k.2.1.mono h1,k.2.2⟩
theorem qw.ow (h:qw A u a t m):Ow A u.heap.size u a t m:=by
 obtain ⟨g,xs,h1,h2,b,c⟩:=h;exact ⟨g,xs,h1,h2,b.lt,b,c⟩
theorem a0H (h:qw A u (some ⟨g,0,none⟩) t (n*m)) (h2:InO u g n m j ti c):kU A u.heap.size u (some ⟨g,0,none⟩) t n m j ti c:=by
 obtain ⟨q,xs,e,p,a,o⟩:=h;cases e;refine ⟨g,rfl,p,a.lt,⟨xs,a,o⟩,fun i l=>?_⟩;obtain ⟨s,b,r,k,f,d⟩:=h2 i l;exact ⟨s,b,r,k,f,d.ow⟩
theorem Pv {T e:TypeId} {a:Value} {b:Nat} (k:prog.underlying T=some (.slice e)) (o:(prog.info? e).map (fun i=>(i.zero,i.size,i.bytes))=some (some a,m,b)) (j:a.cells=z.toArray) (hm:z.length=m) (p:b<=1000) (l:n<=1048576) (u:World):
 (Instr.makeSlice T (.int .i64 (n:Int)) (.int .i64 (n:Int))).run prog u=.ok (.slice (some ⟨u.heap.size,0,none⟩) n n) (u.alloc (.cells (zs z n).toArray e)):=by
 obtain ⟨c,h0,g,f,d⟩:=info_parts o;have:b*n<=1000*1048576:=Nat.mul_le_mul p l;have h:=run_make (P:=prog) u T e c a k h0 g .i64 .i64 (n:Int) (n:Int) O0 (zy _) (by rw [d,<- Int.natCast_mul];omega) O0;rw [<- tK];simpa [f,j,hm] using h
theorem Nk (hf:∀ x,(f x).length=m) (a:z.length=m) (b:k<is.length):k*m+(f (is.getD k d)).length<=(Jt is f z k).length/\Um (Jt is f z k) (k*m) (f (is.getD k d))=Jt is f z (k+1):=by
 have c:((is.take k).flatMap f).length=k*z.length:=by rw [jk hf,B_,xq O0,a]
 have h1:=kR (vs:=f (is.getD k d)) c ((hf _).trans a.symm) b;have h2:=uO (vs:=f (is.getD k d)) c ((hf _).trans a.symm) b;rw [a] at h1 h2;exact ⟨h1,h2.trans (by unfold Jt;rw [bJ (d:=d) b])⟩
theorem wL {l:List Value} (a:k<l.length):l.set k v=Um l k [v]:=by
 unfold Um;rw [List.set_eq_take_append_cons_drop,X7 a];simp
theorem Ik {LS:World->OA->List α->Prop} (hf:∀ x,(f x).length=m) (k:∀ u a is,Jz u a is d m (fun w b o x=>Bc w b o (f x))->LS u a is) (h:Cl w g t (Jt is f z is.length)):Aq g w LS t m is (.slice (some ⟨g,0,none⟩) is.length is.length):=by
 unfold Jt at h;rw [Yp,ku] at h;have hl:=jk hf is;exact ⟨_,_,rfl,H8,(WX h H8).imp (fun u c=>⟨k _ _ _ (.inr ⟨g,0,rfl,c.lt,fun i j=>uX c (fun q v e=>by
  have:q<m:=by have:=(Tm.1 e).1;rwa [hf] at this
  have:i*m+m<=is.length*m:=by rw [<- Vj];exact UI _ j
  rw [L8,S_ O0];exact Xt hf is i j q v e)⟩),g,_,rfl,H8,c,by rw [D9];omega⟩)⟩
/-- The row of pairs: elements with rows of their own. -/
def EZ (b:Nat) (w:World) (LS:World->OA->List α->Prop) (t:TypeId) (m j:Nat) (ti:TypeId) (c:Nat) (is:List α) (v:Value):Prop:=∃ g cp,v=.slice (some ⟨g,0,none⟩) is.length cp/\Kp b w (fun u=>LS u (some ⟨g,0,none⟩) is/\qw b u (some ⟨g,0,none⟩) t (is.length*m)/\InO u g is.length m j ti c)
theorem CJ {f:α×Value->List Value} {ps:List (α×Value)} (hf:∀ x,(f x).length=m) (a:z.length=m) (e:ps.map Prod.fst=is.take k) (b:k<is.length) (v:Value):
 (ps++[(is.getD k d,v)]).map Prod.fst=is.take (k+1)/\k*m+(f (is.getD k d,v)).length<=(ps.flatMap f++zs z (is.length - k)).length/\Um (ps.flatMap f++zs z (is.length - k)) (k*m) (f (is.getD k d,v))=(ps++[(is.getD k d,v)]).flatMap f++zs z (is.length - (k+1)):=by
 have hl:ps.length=k:=by have:=U6 List.length e;simp at this;omega
 have c:(ps.flatMap f).length=k*z.length:=by rw [jk hf,hl,a]
 have h1:=kR (vs:=f (is.getD k d,v)) c ((hf _).trans a.symm) b;have h2:=uO (vs:=f (is.getD k d,v)) c ((hf _).trans a.symm) b;rw [a] at h1 h2;refine ⟨?_,h1,h2.trans (by rw [Ns,List.flatMap_singleton])⟩;rw [Og,e,Sr,Z8 b];simp [List.getD,Z8 b]
theorem DJ {LS:World->OA->List β->Prop} {RS:World->OA->List α->Prop} {b:α->List β} {f:α×Value->List Value} {ps:List (α×Value)} (hf:∀ x,(f x).length=m) (C:∀ p,(f p)[j]?=some p.2) (B:∀ i,(b (is.getD i d)).length<=1048576)
 (hR:∀ u g,g<u.heap.size->(∀ i,i<is.length->∃ a k,Bc u g (0+i*m) (f (is.getD i d,.slice a (b (is.getD i d)).length k))/\LS u a (b (is.getD i d)))->RS u (some ⟨g,0,none⟩) is)
 (o:ps.map Prod.fst=is.take is.length) (h:Cl w g t (ps.flatMap f++zs z (is.length - is.length))) (F:∀ p∈ps,Aq (g+1) w LS ti c (b p.1) p.2):EZ g w RS t m j ti c is (.slice (some ⟨g,0,none⟩) is.length is.length):=by
 rw [Yp] at o;have hl:ps.length=is.length:=by have:=U6 List.length o;simpa using this
 have D:Kp g w (fun u=>Cl u g t (ps.flatMap f++zs z (is.length - is.length))/\∀ i,i<is.length->∃ a k,Bc u g (0+i*m) (f (is.getD i d,vL a (b (is.getD i d)).length k))/\LS u a (b (is.getD i d))/\qw (g+1) u a ti ((b (is.getD i d)).length*c)):=fun u h1 h2=>by
  have e:=(h2 g H8 h.lt).trans h;refine ⟨e,fun i l=>?_⟩;obtain ⟨v,hv,hB⟩:=OU (d:=d) hf e (i:=i) O0;rw [o] at hv hB;obtain ⟨I,H,s,_,r⟩:=F _ hv;dsimp only at s r;subst s;have E:=r u h1 (fun q hq=>h2 q O0);exact ⟨I,H,hB,E⟩
 refine ⟨g,_,rfl,D.imp fun u e=>⟨hR u g e.1.lt (fun i l=>?_),⟨g,_,rfl,H8,e.1,?_⟩,fun i l=>?_⟩⟩
 · obtain ⟨a,k,n,A,_⟩:=e.2 i l;exact ⟨a,k,n,A⟩
 · rw [D9,jk hf,hl];omega
 obtain ⟨a,k,n,_,y⟩:=e.2 i l;exact ⟨a,_,k,by have:=n j _ (C _);rwa [L8] at this,B i,y⟩
end
end Go.Proofs.YtchjpjmcnhjbcaaGreatDoor
namespace Go.Proofs.YtchjpjmcnhjbcaaGreatDoor
open Proofs.Tryz Go.RowKit
variable {w:World} {a:OA} {is:List T.F2} {ss:List Int}
def fiE (x:T.F2):List Value:=[.string x.nm,.string x.tx]
def qM (w:World) (a:OA) (is:List T.F2):Prop:=Jz w a is T.I8 2 fun w b o x=>Bc w b o (fiE x)
theorem zX (h:T.G6 w a is):qM w a is:=by
 rcases h with h | ⟨b,off,h1,h2,d⟩
 · exact .inl h
 refine .inr ⟨b,off,h1,h2,fun i c q v e=>?_⟩
 match q,e with
 | 0,e=>cases e;exact (d i c).1
 | 1,e=>cases e;exact (d i c).2
theorem a0s (h:qM w a is):T.G6 w a is:=by
 rcases h with h | ⟨b,off,h1,h2,d⟩
 · exact .inl h
 exact .inr ⟨b,off,h1,h2,fun i c=>⟨d i c 0 _ rfl,d i c 1 _ rfl⟩⟩
theorem c91 (x:T.F2) (l:Int) (w:World) (h0:0<=l) (h1:l<=1048576) (a:x.le 9223372036854775807):
 Calls prog 91 #[.agg #[.string x.nm,.string x.tx],.int .i64 l] w fun e w'=>(∃ r:Int,e=.returned (.int .i64 r)/\(0<=r->x.le 1048576/\r<=l))/\Bw w w':=by
 obtain ⟨s1,s2⟩:=a;by_cases h':l<x.nm.size
 · go_enter func91,ntmps91;go_wp2;go_ret;exact ⟨⟨-1,rfl,fun h=>O0⟩,P6⟩
 by_cases h2:l - x.nm.size<x.tx.size
 · go_enter func91,ntmps91;go_wp2;go_ret;exact ⟨⟨-1,rfl,fun h=>O0⟩,P6⟩
 · go_enter func91,ntmps91;go_wp2;go_ret;exact ⟨⟨_,rfl,fun h=>⟨⟨O0,O0⟩,O0⟩⟩,P6⟩
theorem c50 (a:OA) (B:Nat) (is:List T.F2) (l:Int) (w:World) (h0:0<=l) (h1:l<=1048576) (o:∀ i,(is.getD i T.I8).le 9223372036854775807) (hl:is.length<=9223372036854775807) (q:qM w a is):
 Calls prog 50 #[.slice a is.length B,.int .i64 l] w fun e w'=>(∃ r:Int,e=.returned (.int .i64 r)/\(0<=r->is.length<=1048576/\(∀ i,(is.getD i T.I8).le 1048576)/\r<=1048576))/\Bw w w':=by
 obtain ⟨b,off,hc⟩:=N_ q;have E:=U0 hc;have D:=U0 o;clear hc q o;by_cases hbig:l<is.length
 · go_enter func50,ntmps50;go_wp2;go_ret;exact ⟨⟨-1,rfl,fun h=>O0⟩,Z4 _ _⟩
 go_enter func50,ntmps50
 go_wp2_with fail
 go_loopw [1,5] (fun u i wr=>∃ (k:Nat) (r:Int),k<=is.length/\i=.int .i64 k/\u=.int .i64 r/\0<=r/\r<=1048576/\Hid (∀ i,i<k->(is.getD i T.I8).le 1048576)/\Below w.heap.size w wr) (fun _ i _=>is.length - (RowKit.intOf i).toNat)
 case atStart=>exact ⟨0,_,J4 _,rfl,rfl,O0,O0,fun i h=>absurd h (J8 _),Z4 _ _⟩
 case round=>
  obtain ⟨k,r,hk,rfl,rfl,z,y,n,c⟩:=hrel;by_cases j:k<is.length;rotate_left
  · have f:Hid (∀ i,(is.getD i T.I8).le 1048576):=U0 (ZP (is:=is) (d:=T.I8) (R:=fun x=>x.le 1048576) ⟨o6,o6⟩ (fun i h=>n.out i O0));go_wp2;go_ret;exact ⟨⟨r,rfl,fun _=>⟨O0,f.out,y⟩⟩,c⟩
  obtain ⟨ha,p,m⟩:=Cc E.out j;subst ha;have g0:=((m k j).below p c) 0 _ rfl;have g1:=((m k j).below p c) 1 _ rfl;dsimp only [Nat.add_zero] at g0;have v:=D.out k;generalize hx:is.getD k T.I8=x at*;have C:=U0 hx;clear hx m
  go_wp2_with fail
  refine (c91 x r wr z O0 v).mono ?_;rintro e w1 ⟨⟨t,rfl,hr⟩,A⟩;have s:=X5 c A;by_cases hneg:t<0
  · clear hr;go_wp2;go_ret;exact ⟨⟨-1,rfl,fun h=>O0⟩,s⟩
  have g:=hr O0;have f:Hid (∀ i,i<k+1->(is.getD i T.I8).le 1048576):=by
   intro i h;rcases Q7 i k with h1 | h1
   · exact n.out i h1
   · obtain rfl:i=k:=O0;rw [C.out];exact g.1
  have hr2:=g.2;clear hr g;go_wp2;go_roundw
  case rel=>exact ⟨k+1,_,O0,by go_num,rfl,O0,O0,f,s⟩
  case measure=>simp [RowKit.intOf];omega
theorem c12 (a:OA) (b:Nat) (is:List T.F2) (l:Int) (w:World) (h0:0<=l) (h1:l<=1048576) (c:∀ i,(is.getD i T.I8).le 9223372036854775807) (hl:is.length<=9223372036854775807) (f:T.G6 w a is):
 Calls prog 12 #[.agg #[.slice a is.length b],.int .i64 l] w fun e w'=>(∃ r:Int,e=.returned (.int .i64 r)/\(0<=r->is.length<=1048576/\(∀ i,(is.getD i T.I8).le 1048576)/\r<=1048576))/\Bw w w':=by
 have hc:=c50 a b is l _ h0 h1 c hl (zX (T.J5 f (P6 (o:=.cells #[vL a is.length b] 27))));clear c f;go_enter func12,ntmps12
 go_wp2_with fail
 refine hc.mono ?_;rintro e w1 ⟨⟨r,rfl,hr⟩,d⟩;have j:=U0 hr;have g:=U0 (X5 P6 d);clear hc hr d;by_cases hn:r<0
 · go_wp2;go_ret;exact ⟨⟨-1,rfl,fun h=>O0⟩,g.out⟩
 go_wp2;go_ret;exact ⟨⟨_,rfl,j.out⟩,g.out⟩
def Ye (w:World) (a:OA) (ss:List Int):Prop:=
 ss=[]\/∃ b off,a=some ⟨b,off,none⟩/\b<w.heap.size/\∀ i,i<ss.length->w.cell? ⟨b,off+i,none⟩=some (.int .i64 (ss.getD i 0))
theorem ig (h:Ye w a ss):∃ b off,(ss=[]\/(a=some ⟨b,off,none⟩/\b<w.heap.size/\∀ i,i<ss.length->w.cell? ⟨b,off+i,none⟩=some (.int .i64 (ss.getD i 0)))):=by
 rcases h with h | ⟨b,off,h⟩
 · exact ⟨0,0,.inl h⟩
 · exact ⟨b,off,.inr h⟩
theorem oh {w':World} (h:Ye w a ss) (c:Bw w w'):Ye w' a ss:=by
 rcases h with h | ⟨b,off,h1,h2,e⟩
 · exact .inl h
 · exact .inr ⟨b,off,h1,O9 h2 c.size,fun i d=>by rw [c.cell (by exact h2)];exact e i d⟩
theorem a1h:(prog.info? 3).map (fun i=>(i.zero,i.size,i.bytes))=some (some (.int .i64 0),1,8):=Y2
theorem c32 (a l:OA) (o n:Nat) (ss:List Int) (w:World) (hl:ss.length<=1048576) (j:Ye w a ss) (h:Ye w l ss):
 Calls prog 32 #[.slice a ss.length o,.slice l ss.length n] w fun e w'=>e=.returned (.bool true)/\Bw w w':=by
 obtain ⟨b,off,hc⟩:=ig j;have q:=U0 hc;clear hc j;obtain ⟨b',off',g⟩:=ig h;have p:=U0 g;clear g h;go_enter func32,ntmps32
 go_wp2_with fail
 go_loopw [5] (fun i wr=>∃ (k nq:Nat),k<=ss.length/\i=.int .i64 k/\wr=w.drewN nq) (fun i _=>ss.length - (RowKit.intOf i).toNat)
 case atStart=>exact ⟨0,0,J4 _,rfl,rfl⟩
 case round=>
  obtain ⟨k,nq,hk,rfl,rfl⟩:=hrel;by_cases c:k<ss.length
  · obtain ⟨ha,hbw,f⟩:=Cc q.out c;obtain ⟨m,a5A,d⟩:=Cc p.out c;subst ha;subst m;have g0:=f k c;have g1:=d k c;generalize ss.getD k 0=x at*;clear f d
    go_wp2_with fail
    go_quiet (fail)
    go_wp2;go_roundw
    case rel=>exact ⟨k+1,_,O0,by go_num,rfl⟩
    case measure=>simp [RowKit.intOf];omega
  · go_wp2;go_ret;exact ⟨rfl,below_drewN _⟩
theorem c14 (a:OA) (b n:Nat) (l:Int) (w:World) (h0:0<=l) (h1:l<=1048576) (hn:n<=9223372036854775807):
 Calls prog 14 #[.slice a n b,.int .i64 l] w fun e w'=>(∃ r:Int,e=.returned (.int .i64 r)/\(0<=r->n<=1048576/\r<=l))/\w'=w:=by
 by_cases h:l<n
 · go_enter func14,ntmps14;go_wp2;go_ret;exact ⟨⟨-1,rfl,fun h=>O0⟩,rfl⟩
 · go_enter func14,ntmps14;go_wp2;go_ret;exact ⟨⟨_,rfl,fun h=>⟨O0,O0⟩⟩,rfl⟩
theorem c107 (n:Int) (w:World):
 Calls prog 107 #[.int .i64 n] w fun e w'=>e=.returned (.bool (decide (1<=n/\n<=4)))/\w'=w:=by
 by_cases h1:1<=n<;>by_cases h2:n<=4
 all_goals
  go_enter func107,ntmps107;go_wp2;go_ret;exact ⟨by simp [h1,h2],rfl⟩
structure TB (w:World) (ta tr:TypeId) (ar zs xs:List Value) (P:World->Prop) (V:World):Prop where
 bel:Bw w V
 sz:w.heap.size+3<=V.heap.size
 ca:Cl V w.heap.size ta ar
 cr:Cl V (w.heap.size+1) tr zs
 co:Cl V (w.heap.size+1+1) tr xs
 kp:Kp (w.heap.size+3) V P
section
variable {w V V1:World} {ta tr:TypeId} {ar zs xs xs':List Value} {P Q:World->Prop}
theorem Wi:TB w ta tr ar zs zs (fun _=>True) (((w.alloc (.cells ar.toArray ta)).alloc (.cells zs.toArray tr)).alloc (.cells zs.toArray tr)):=
 ⟨(P6.alloc X4 _).alloc U7 _,X4,G9 (G9 (Y4 w ar ta) _) _,G9 (by have h:=Y4 (w.alloc (.cells ar.toArray ta)) zs tr;simpa using h) _,by have h:=Y4 ((w.alloc (.cells ar.toArray ta)).alloc (.cells zs.toArray tr)) zs tr;simpa using h,fun _ _ _=>trivial⟩
theorem TB.put (h:TB w ta tr ar zs xs P V) (j:Nat) (v:Value):TB w ta tr ar zs (xs.set j v) P (V.setCell ⟨w.heap.size+1+1,j,none⟩ v):=
 have o:=Ve V (w.heap.size+1+1) j v
 ⟨h.bel.trans (o.below O0),by have:=h.sz;have:=o.size;omega,h.ca.on o O0,h.cr.on o O0,h.co.set j v,h.kp.on o O0⟩
theorem TB.on (h:TB w ta tr ar zs xs P V) (o:uy (w.heap.size+1+1) V V1) (c:Cl V1 (w.heap.size+1+1) tr xs'):TB w ta tr ar zs xs' P V1:=
 ⟨h.bel.trans (o.below O0),by have:=h.sz;have:=o.size;omega,h.ca.on o O0,h.cr.on o O0,c,h.kp.on o O0⟩
theorem TB.call (h:TB w ta tr ar zs xs P V) (a:Bw V V1) (b:Kp V.heap.size V1 Q):TB w ta tr ar zs xs (fun u=>P u/\Q u) V1:=
 ⟨X5 h.bel a,G7 h.sz a.size,h.ca.below a h.ca.lt,h.cr.below a h.cr.lt,h.co.below a h.co.lt,fun u h1 h2=>⟨h.kp.below a u h1 h2,b.low h.sz u h1 h2⟩⟩
theorem TB.end_ {z:World} (h:TB w ta tr ar zs xs P V) (o:uy (w.heap.size+1) V z):Kp w.heap.size z P/\Bw w z:=⟨(h.kp.on o O0).low O0,h.bel.trans (o.below O0)⟩
