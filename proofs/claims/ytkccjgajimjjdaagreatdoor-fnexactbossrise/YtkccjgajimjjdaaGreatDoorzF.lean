import Derived.Test.YtkccjgajimjjdaaGreatDooreEO
import Derived.Test.YtkccjgajimjjdaaGreatDoortWF
import Derived.Lib.AppendIntMem
set_option linter.unusedVariables false
set_option maxHeartbeats 8000000
set_option maxRecDepth 100000
namespace Go.Proofs.YtkccjgajimjjdaaGreatDoor
open Proofs.Tryz Go.RowKit Go.Maps
variable{A B:Nat}{V w w':World}{t:TypeId}{cs:List Value}{S S':List TypeId}
def kn(K:Int)(rs:List R3)(i:Nat):Int:=K+2*(i:Int)+3*(Sz (rs.take i):Int)
open Go.RowKit
theorem c38(a J:OA)(cap Q:Nat)(is:List Rn)(w:World)(hl:is.length<=1048576)(r:∀i,(is.getD i A_).ls.length<=1048576)(E:yj w a is)(D:yj w J is):
 Calls prog 38 #[.slice a is.length cap,.slice J is.length Q] w λe w'=>e=.returned (.bool true)/\Bw w w':=by
 obtain⟨b,off,hc⟩:=Na E;have X:=U0 hc;obtain⟨b',q,v⟩:=Na D;have W:=U0 v;have U:=U0 r;clear hc E v D r
 go_in
 go_wp2;go_loopw[5] (λi wr=>∃(k:Nat),k<=is.length/\i=.int .i64 k/\Below w.heap.size w wr) (λi _=>is.length-(RowKit.intOf i).toNat);exact⟨0,J4 _,rfl,G5 _ _⟩;obtain⟨k,hk,rfl,c⟩:=hrel;by_cases d:k<is.length;rotate_left
 ·go_wp2;go_ret;exact⟨rfl,c⟩
 obtain⟨ha,C,t⟩:=Jd X.out d;obtain⟨P,A,s⟩:=Jd W.out d;subst ha;subst P;have hd:Bw wr wr.drew:=(G5 _ _).drew;have z:=U9 C c.size;have y:=U9 A c.size;obtain⟨n,l,I,H⟩:=((t k d).below C c).below z hd;obtain⟨m,h,p,o⟩:=((s k d).below A c).below y hd;have O:=U.out k;generalize is.getD k A_=x at*;have Y:=U0 H;have R:=U0 o;have N:=U0 I;have L:=U0 p;have V:=U0 (J5 c hd);clear t s H o I p hd
 go_wp2_with fail
 refine wp_region_held_drew (S:=λu=>Bc u b (off+k*6) (Ph (x,vL n x.ls.length l))/\Bc u b' (q+k*6) (Ph (x,vL m x.ls.length h))) Y1 ⟨N.out,L.out⟩ λhH=>?_
 iterate 3 refine sq ?_
 refine tq 3 hH ?_ (hv:=λu f=>d_ 111 _ rfl (B:=b) (j:=off+k*6) (cs:=Ph (x,vL n x.ls.length l)) rfl f.1 underlying111 rfl Y1)
 iterate 3 refine sq ?_
 refine tq 7 hH ?_ (hv:=λu f=>d_ 111 _ rfl (B:=b') (j:=q+k*6) (cs:=Ph (x,vL m x.ls.length h)) rfl f.2 underlying111 rfl Y1)
 try simp only[qq]
 refine rq 8 λK F=>?_;go_simp;refine(a3S x n m l h wr.drew O Y.out R.out).mono ?_;rintro e w1⟨rfl,g⟩
 go_wp2_with fail
 refine A8 F ⟨N.out.below z g,L.out.below y g⟩ λhH=>?_;clear F K;refine sq ?_;refine wdn ?_;go_wp2;go_roundw;exact⟨k+1,O0,by go_num,J5 V.out g⟩;exact Z9
structure Bx(A B:Nat)(S:List TypeId)(w:World)(t:TypeId)(cs:List Value)(V:World):Prop where
 md:Md A B S w V
 c:Cl V w.heap.size t cs
theorem sF:Bx A B [] w t cs (w.alloc (.cells cs.toArray t)):=⟨Md.of Y6,X4 _ _ _⟩
theorem Bx.go{a:World}(h:Bx A B S w t cs V)(hB:B<=w.heap.size)(m:Md A B S' V a):Bx A B (S++S') w t cs a:=⟨h.md.tr m,(m.block _ h.c.lt (.inr hB)).trans h.c⟩
theorem Bx.fin(h:Bx A B S w t cs V)(a:∀t∈S,t∈S'):Md A B S' w V:=h.md.mono X7 X7 a
theorem UZ.md{A' B' n m j c:Nat}{ti:TypeId}{a:OA}(h:UZ A B w a t n m j ti c)(k:Md A' B' S w w')(ht:t∉S):UZ A B w' a t n m j ti c:=by
 obtain⟨g,h1,h2,e,b⟩:=h;obtain⟨xs,d,_⟩:=b.1;exact⟨g,h1,h2,e,b.md k (k.ty g t xs d ht)⟩
def Pow (w:World):Prop:=Lib.TabIs prog w "internal/strconv.uint64pow10" .u64 Lib.pow10Tab
theorem Ir(h:Pow w)(b:Bw w w'):Pow w':=by
 have h0:(prog.globalNamed "internal/strconv.uint64pow10").isSome=true:=Y1;obtain⟨g,a⟩:=XJ.1 h0;unfold Pow Lib.TabIs World.var? at h ⊢;rw[a]at h ⊢;simp only[Option.bind_some]at h ⊢;rcases D8 g w.heap.size with h1|h1
 ·rw[b.block g h1];exact h
 rw[Qp h1]at h;cases h
theorem fC(f:Nat):∀n:Nat,n<f->Lib.decDigits n=dec n:=by
 induction f with
 | zero=>intro n h;omega
 | succ f ih=>
  intro n h;unfold Lib.decDigits;by_cases a:n<10
  ·rw[dif_pos a,dec_lt _ (by omega)]
   congr 2
  rw[dif_neg a,Wj _ (by omega),ih (n/10) (by omega)]
  congr 3
theorem a2t(n:Int)(w:World)(h0:0<=n)(h1:n<=100000000)(a:Pow w):
 Calls prog 162 #[.int .i64 n] w λe w'=>e=.returned (.string (I4 (dec n)))/\Bw w w':=by
 refine(Tryz.strconv_Itoa n (by omega) (by omega) w a).mono ?_;rintro e w'⟨rfl,k,os,rfl⟩;have b:Lib.itoa n=dec n:=by
  unfold Lib.itoa;rw[Y7 (by omega),fC (n.toNat+1) n.toNat (by omega),Int.toNat_of_nonneg h0]
 rw[b];exact⟨rfl,Lib.below_grow _ _ (J8 _) k os⟩
theorem a4a(n:Int)(w:World)(h0:1<=n)(h1:n<=200)(a:Pow w):
 Calls prog 101 #[.int .i64 n] w λe w'=>e=.returned (.string (I4 (m_ (J9 n))))/\Bw w w':=by
 have hs:=Yy n (by omega) (by omega);have d:=U0 (cZ n);have c:=U0 a;clear a
 go_in
 go_wp2_with fail
 refine(a2t n _ O0 O0 c.out).mono ?_;rintro e w1⟨rfl,b⟩;have k1:¬9223372036854775807<6+(I4 (dec n)).size:=by omega
 have k2:¬9223372036854775807<6+(I4 (dec n)).size+1:=by omega
 have k3:¬9223372036854775807<=6+(I4 (dec n)).size:=by omega
 go_wp2;go_ret;exact⟨Yq d.out,b⟩
