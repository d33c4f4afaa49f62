import Derived.Test.YtchjpjmcnhjbcaaGreatDoorvF
import Derived.Test.YtchjpjmcnhjbcaaGreatDoortV5
import Derived.Laws.CopyOwn
set_option linter.unusedVariables false
set_option maxHeartbeats 8000000
set_option maxRecDepth 100000
namespace Go.Proofs.YtchjpjmcnhjbcaaGreatDoor
open Proofs.Tryz Go.RowKit
theorem Wn {α:Type} {d:α} {x y:List α} (h:x.length=y.length) (hd:∀ j,j<x.length->x.getD j d=y.getD j d):x=y:=by
 apply Vy h;intro i h1 h2;have e:=hd i h1;simpa [List.getD,h1,h2] using e
theorem a2E (a c:List Int) (x v:OA) (F E:Nat) (w:World) (hl:a.length<=1048576) (hl':c.length<=1048576) (t:Ye w x a) (s:Ye w v c):
 Calls prog 114 #[.slice x a.length F,.slice v c.length E] w fun e w'=>Rb (a=c) e/\Bw w w':=by
 by_cases d:a.length=c.length;rotate_left
 · have n:Hid (¬ a=c):=fun h=>d (by rw [h]);have hn1:¬ (a.length:Int)=c.length:=O0;go_enter func114,ntmps114;go_wp2;go_ret;exact ⟨G5 n.out,Z4 _ _⟩
 · rw [<- d];have m:=U0 d;clear d;obtain ⟨b,off,hc⟩:=ig t;obtain ⟨b',y,r⟩:=ig s;have K:=U0 hc;have J:=U0 r;clear hc r t s;go_enter func114,ntmps114
   go_wp2_with fail
   go_loopw [13] (fun i wr=>∃ (k:Nat),k<=a.length/\i=.int .i64 k/\Hid (∀ j,j<k->a.getD j 0=c.getD j 0)/\Below w.heap.size w wr) (fun i _=>a.length - (RowKit.intOf i).toNat)
   case atStart=>exact ⟨0,J4 _,rfl,fun j h=>absurd h (J8 _),Z4 _ _⟩
   case round=>
    obtain ⟨k,hk2,rfl,hd,l⟩:=hrel;have u:=l;by_cases g:k<a.length
    · obtain ⟨ha,B,q⟩:=Cc K.out g;rcases J.out with z | ⟨C,A,o⟩
      · have d:=m.out;rw [z] at d;rw [d] at g;exact absurd g (J8 _)
      subst ha;subst C;have g0:=(l.cell (p:=(aA b (off+k))) B).trans (q k g);have D:=(l.cell (p:=(aA b' (y+k))) A).trans (o k (by have:=m.out;omega));clear q o;by_cases f:a.getD k 0=c.getD k 0
      · have I:Hid (∀ j,j<k+1->a.getD j 0=c.getD j 0):=fun j hj=>by
         rcases Q7 j k with h | h
         · exact hd.out j h
         · obtain rfl:j=k:=O0;exact f
        rw [<- f] at D;generalize a.getD k 0=X at*;clear f hd
        go_wp2_with fail
        go_region
        all_goals go_wp2
        all_goals go_roundw
        all_goals first
         | exact ⟨k+1,O0,by go_num,I,l.drew⟩
         | (simp [RowKit.intOf];omega)
      · have n:Hid (¬ a=c):=fun h=>f (by rw [h]);generalize a.getD k 0=X at*;generalize c.getD k 0=Y at*;have hg':(X==Y)=false:=by simpa using f
        go_wp2_with fail
        go_region
        all_goals go_wp2
        all_goals go_ret
        all_goals exact ⟨G5 n.out,u.drew⟩
    · obtain rfl:k=a.length:=O0;have H:Hid (a=c):=by
       exact Wn m.out hd.out
      go_wp2;go_ret;exact ⟨u_ H.out,u⟩
theorem a2O (a c:LB) (x v:OA) (F E:Nat) (w:World) (hl:a.length<=1048576) (hl':c.length<=1048576) (t:P7 w x a) (s:P7 w v c):
 Calls prog 161 #[.slice x a.length F,.slice v c.length E] w fun e w'=>Rb (a=c) e/\Bw w w':=by
 by_cases d:a.length=c.length;rotate_left
 · have n:Hid (¬ a=c):=fun h=>d (by rw [h]);have hn1:¬ (a.length:Int)=c.length:=O0;go_enter func161,ntmps161;go_wp2;go_ret;exact ⟨G5 n.out,Z4 _ _⟩
 · rw [<- d];have m:=U0 d;clear d;obtain ⟨b,off,hc⟩:=K_ t;obtain ⟨b',y,r⟩:=K_ s;have K:=U0 hc;have J:=U0 r;clear hc r t s;go_enter func161,ntmps161
   go_wp2_with fail
   go_loopw [13] (fun i wr=>∃ (k:Nat),k<=a.length/\i=.int .i64 k/\Hid (∀ j,j<k->a.getD j ByteArray.empty=c.getD j ByteArray.empty)/\Below w.heap.size w wr) (fun i _=>a.length - (RowKit.intOf i).toNat)
   case atStart=>exact ⟨0,J4 _,rfl,fun j h=>absurd h (J8 _),Z4 _ _⟩
   case round=>
    obtain ⟨k,hk2,rfl,hd,l⟩:=hrel;have u:=l;by_cases g:k<a.length
    · obtain ⟨ha,B,q⟩:=Cc K.out g;rcases J.out with z | ⟨C,A,o⟩
      · have d:=m.out;rw [z] at d;rw [d] at g;exact absurd g (J8 _)
      subst ha;subst C;have g0:=(l.cell (p:=(aA b (off+k))) B).trans (q k g);have D:=(l.cell (p:=(aA b' (y+k))) A).trans (o k (by have:=m.out;omega));clear q o;by_cases f:a.getD k ByteArray.empty=c.getD k ByteArray.empty
      · have I:Hid (∀ j,j<k+1->a.getD j ByteArray.empty=c.getD j ByteArray.empty):=fun j hj=>by
         rcases Q7 j k with h | h
         · exact hd.out j h
         · obtain rfl:j=k:=O0;exact f
        rw [<- f] at D;generalize a.getD k ByteArray.empty=X at*;clear f hd
        go_wp2_with fail
        go_region
        all_goals go_wp2
        all_goals go_roundw
        all_goals first
         | exact ⟨k+1,O0,by go_num,I,l.drew⟩
         | (simp [RowKit.intOf];omega)
      · have n:Hid (¬ a=c):=fun h=>f (by rw [h]);generalize a.getD k ByteArray.empty=X at*;generalize c.getD k ByteArray.empty=Y at*;have q':=p_.2 (Ub f)
        go_wp2_with fail
        go_region
        all_goals go_wp2
        all_goals go_ret
        all_goals exact ⟨G5 n.out,u.drew⟩
    · obtain rfl:k=a.length:=O0;have H:Hid (a=c):=by
       exact Wn m.out hd.out
      go_wp2;go_ret;exact ⟨u_ H.out,u⟩
theorem a2c (a c:List T.F2) (B A:OA) (L K:Nat) (w:World) (hl:a.length<=1048576) (hl':c.length<=1048576) (z:T.G6 w B a) (y:T.G6 w A c):
 Calls prog 115 #[.slice B a.length L,.slice A c.length K] w fun e w'=>Rb (a=c) e/\Bw w w':=by
 by_cases d:a.length=c.length;rotate_left
 · have n:Hid (¬ a=c):=fun h=>d (by rw [h]);have hn1:¬ (a.length:Int)=c.length:=O0;go_enter func115,ntmps115;go_wp2;go_ret;exact ⟨G5 n.out,Z4 _ _⟩
 · rw [<- d];have m:=U0 d;clear d;obtain ⟨b,off,hc⟩:=T.Z9 z;obtain ⟨b',t,u⟩:=T.Z9 y;have Q:=U0 hc;have P:=U0 u;clear hc u z y;go_enter func115,ntmps115
   go_wp2_with fail
   go_loopw [13] (fun i wr=>∃ (k:Nat),k<=a.length/\i=.int .i64 k/\Hid (∀ j,j<k->a.getD j T.I8=c.getD j T.I8)/\Below w.heap.size w wr) (fun i _=>a.length - (RowKit.intOf i).toNat)
   case atStart=>exact ⟨0,J4 _,rfl,fun j h=>absurd h (J8 _),Z4 _ _⟩
   case round=>
    obtain ⟨k,hk2,rfl,hd,g⟩:=hrel;have r:=g;by_cases l:k<a.length
    · obtain ⟨ha,x,q⟩:=Cc Q.out l;rcases P.out with F | ⟨H,v,o⟩
      · have d:=m.out;rw [F] at d;rw [d] at l;exact absurd l (J8 _)
      subst ha;subst H;have g0:=(g.cell (p:=(aA b (off+k*2))) x).trans ((q k l).1);have g1:=(g.cell (p:=(aA b (off+k*2+1))) x).trans ((q k l).2);have J:=(g.cell (p:=(aA b' (t+k*2))) v).trans ((o k (by have:=m.out;omega)).1);have I:=(g.cell (p:=(aA b' (t+k*2+1))) v).trans ((o k (by have:=m.out;omega)).2);clear q o;by_cases f:a.getD k T.I8=c.getD k T.I8
      · have O:Hid (∀ j,j<k+1->a.getD j T.I8=c.getD j T.I8):=fun j hj=>by
         rcases Q7 j k with h | h
         · exact hd.out j h
         · obtain rfl:j=k:=O0;exact f
        rw [<- f] at J I;generalize a.getD k T.I8=X at*;clear f hd
        go_wp2_with fail
        go_region
        all_goals go_wp2
        all_goals go_roundw
        all_goals first
         | exact ⟨k+1,O0,by go_num,O,g.drew⟩
         | (simp [RowKit.intOf];omega)
      · have n:Hid (¬ a=c):=fun h=>f (by rw [h]);generalize a.getD k T.I8=X at*;generalize c.getD k T.I8=Y at*;obtain ⟨t1,D⟩:=X;obtain ⟨t2,C⟩:=Y;by_cases s:t1=t2
        · subst s;have E:¬ D=C:=fun h=>f (by rw [h]);have q3':=Ub E;clear f
          go_wp2_with fail
          go_region
          all_goals go_wp2
          all_goals go_ret
          all_goals exact ⟨G5 n.out,r.drew⟩
        · have q2':=Ub s;clear f
          go_wp2_with fail
          go_region
          all_goals go_wp2
          all_goals go_ret
          all_goals exact ⟨G5 n.out,r.drew⟩
    · obtain rfl:k=a.length:=O0;have N:Hid (a=c):=by
       exact Wn m.out hd.out
      go_wp2;go_ret;exact ⟨u_ N.out,r⟩
theorem sZ (x:Value) (n:Nat):zs [x] n=List.replicate n x:=by
 induction n with
 | zero=>rfl
 | succ n ih=>rw [VD,ih];rfl
theorem FU (x:Value) (hx:x.oneCell'=true) (n:Nat):∀ v∈List.replicate n x,v.oneCell'=true:=fun v hv=>by rw [(List.mem_replicate.1 hv).2];exact hx
theorem pJ {n k m:Nat} {V Z:Value} (h:k+m<=n):splice (List.replicate k V++List.replicate (n - k) Z) k (List.replicate m V)=List.replicate (k+m) V++List.replicate (n - (k+m)) Z:=by
 unfold splice;rw [List.take_left' X4,Uy,List.drop_append,List.drop_eq_nil_of_le X4,Ua,Uy,List.drop_replicate,<- iq,List.replicate_append_replicate]
 congr 2
 omega
theorem c236 (n:Int) (w:World) (a:n=1\/n=2\/n=3\/n=4):Calls prog 236 #[.int .u64 1,.int .u64 n] w fun e w'=>e=.returned (.tuple #[.int .u64 0,.int .u64 n])/\w'=w:=by
 rcases a with rfl|rfl|rfl|rfl
 all_goals
  go_enter func236,ntmps236;go_wp2;go_ret2;exact ⟨rfl,rfl⟩
theorem a2H (n:Int) (w:World) (a:n=1\/n=2\/n=3\/n=4):Calls prog 179 #[.int .u64 1,.int .u64 n] w fun e w'=>e=.returned (.tuple #[.int .u64 0,.int .u64 n])/\w'=w:=by
 go_enter func179,ntmps179
 go_wp2_with fail
 refine (c236 n w a).mono ?_;rintro e w1 ⟨rfl,rfl⟩;go_wp2;go_ret2;exact ⟨rfl,rfl⟩
theorem c127 (n x:Nat) (w:World) (l:1<=n/\n<=4) (hx:x<w.heap.size) (hc:w.cell? ⟨x,0,none⟩=some (.int .i64 (-1))):
 Calls prog 127 #[.slice (some ⟨x,0,none⟩) 1 1,.int .i64 n] w fun e w'=>(∃ g,e=.returned (.slice (some ⟨g,0,none⟩) n n)/\w.heap.size<=g/\Cl w' g 3 (List.replicate n (.int .i64 (-1))))/\Bw w w':=by
 obtain ⟨F,q,f,d,c⟩:=info_parts a1h;have J:∀ u:World,(Instr.makeSlice 31 (vI (n:Int)) (vI (n:Int))).run prog u=
  .ok (vL (some (aW u 0)) n n) (u.alloc (.cells (List.replicate n (Value.int .i64 0)).toArray 3)):=fun u=>by
  have h:=run_make (P:=prog) u 31 3 F vO underlying31 q f .i64 .i64 (n:Int) (n:Int) O0 (zy _) (by rw [c];omega) O0;have e:=tK [Value.int .i64 0] n;rw [sZ] at e;rw [<- e];simpa [d,Value.cells] using h
 clear q f d c;have I:IntKind.u64.wrap (n:Int)=n:=by obtain rfl|rfl|rfl|rfl:n=1\/n=2\/n=3\/n=4:=O0<;>rfl
 have hv:IntKind.i64.wrap (n:Int)=n:=by obtain rfl|rfl|rfl|rfl:n=1\/n=2\/n=3\/n=4:=O0<;>rfl
 go_enter func127,ntmps127
 go_wp2_with fail
 refine (a2H n w O0).mono ?_;rintro e w1 ⟨rfl,H⟩;obtain rfl:=H.symm;have C:=U0 (Y4 w (List.replicate n (Value.int .i64 0)) 3);have z:Bw w (w.alloc (.cells (List.replicate n (Value.int .i64 0)).toArray 3)):=P6;have o:=(z.cell (p:=(aA x 0)) hx).trans hc;have A:Hid (∀ j v,([vI (-1)]:List Value)[j]?=some v->(w.alloc (.cells (List.replicate n (Value.int .i64 0)).toArray 3)).cell? ((aA x 0).add j)=some v):=fun j v h=>by
  match j with
  | 0=>obtain rfl:=w_ h;exact o
  | j+1=>simp at h
 have a:([vI (-1)]:List Value).length=Nat.min 1 n:=(xq l.1).symm
 go_wp2_with (refine wpList_copy_splice rfl (.tmp 31) (.tmp 32) 31 31 rfl 3 underlying31 Y2 _ _ _ _ _ _ rfl rfl w.heap.size 0 (List.replicate n (Value.int .i64 0)) 3 C.out [vI (-1)] a (fun _=>⟨rfl,_,rfl,A.out⟩) U7 (by simp [Value.oneCell']) w.heap.size w z H8 ?_;intro E s R)
 have W:Hid (Cl E w.heap.size 3 (List.replicate 1 (Value.int .i64 (-1))++List.replicate (n - 1) (Value.int .i64 0))):=by
  have h:=s.out;have e:=pJ (n:=n) (k:=0) (m:=1) (V:=vI (-1)) (Z:=vO) O0;simp only [List.replicate_zero,Ua,Nat.sub_zero,L8] at e;show _=_;rw [<- e];exact h
 clear s C A o J a;go_loopw [8] (fun i wr=>∃ k:Nat,1<=k/\k<=n/\i=.int .i64 k/\Hid (Cl wr w.heap.size 3 (List.replicate k (Value.int .i64 (-1))++List.replicate (n - k) (Value.int .i64 0)))/\Below w.heap.size w wr) (fun i _=>n - (RowKit.intOf i).toNat)
 case atStart=>exact ⟨1,v_ _,l.1,rfl,W,R⟩
 case round=>
  obtain ⟨k,hk1,hk,rfl,b,t⟩:=hrel;by_cases hlt:k<n;rotate_left
  · obtain rfl:k=n:=O0;have X:Hid (Cl wr w.heap.size 3 (List.replicate k (Value.int .i64 (-1)))):=by
     have h:=b.out;rw [ku,List.replicate_zero,Wy] at h;exact h
    go_wp2;go_ret;exact ⟨⟨_,rfl,H8,X.out⟩,t⟩
  have B:Hid (∀ j v,(List.replicate (min k (n - k)) (Value.int .i64 (-1)))[j]?=some v->wr.drew.cell? ((aW w 0).add j)=some v):=fun j v h=>by
   have N:j<min k (n - k):=by have:=(Tm.1 h).1;simpa using this
   rw [Jq,L8];refine (b.out.cell j).trans ?_;rw [S_ U7,<- h,VQ,VQ,X7 O0,X7 N]
  go_wp2_with fail
  refine wp_region_held_drew (S:=fun _=>True) Y2 trivial fun hH=>?_;refine tq 0 hH ?_;refine tq 1 hH ?_;refine Y0 2 ?_;refine tq 3 hH ?_;refine tq 4 hH ?_;refine Y0 5 ?_;refine Y0 6 ?_;refine rq 7 fun K y=>?_;have a:(List.replicate (min k (n - k)) (Value.int .i64 (-1))).length=Nat.min k (n - k):=Uy;refine step_copy_splice rfl (.tmp 41) (.tmp 44) 31 31 rfl 3 underlying31 Y2 _ _ _ _ _ _ rfl rfl w.heap.size k (List.replicate k (Value.int .i64 (-1))++List.replicate (n - k) (Value.int .i64 0)) 3 b.out (List.replicate (min k (n - k)) (Value.int .i64 (-1))) a (fun _=>⟨I7 O0,_,rfl,B.out⟩) U7 (FU _ rfl _) w.heap.size w (t.trans (Z4 _ _).drew) H8 ?_;intro D r Q;have U:Hid (Cl D w.heap.size 3 (List.replicate (k+min k (n - k)) (Value.int .i64 (-1))++List.replicate (n - (k+min k (n - k))) (Value.int .i64 0))):=by
   show _=_;rw [<- pJ O0];exact r.out
  rw [Uy];have hm1:1<=min k (n - k):=O0;have L:k+min k (n - k)<=n:=O0;have O:goInt ((min k (n - k):Nat):Int)=vI ((min k (n - k):Nat):Int):=rfl;rw [O];generalize min k (n - k)=m at*;clear r b B I hv;have hkm:IntKind.i64.wrap ((k:Int)+(m:Int))=((k+m:Nat):Int):=by rw [GI];omega
  refine E8 y trivial fun hH=>?_;clear y K;refine Y0 8 ?_;refine Y0 9 ?_;refine wdn ?_;go_wp2;go_roundw
  case rel=>exact ⟨k+m,O0,L,by rw [Int.natCast_add],U,Q⟩
  case measure=>simp [RowKit.intOf];omega
theorem c79 (n:Nat) (w:World) (d:1<=n/\n<=4):Calls prog 79 #[.int .i64 n] w fun e w'=>(∃ g,e=.returned (.slice (some ⟨g,0,none⟩) n n)/\w.heap.size<=g/\Cl w' g 3 (List.replicate n (.int .i64 (-1))))/\Bw w w':=by
 have a:Bw w (w.alloc (.cells #[vI (-1)] 3)):=P6;go_enter func79,ntmps79
 go_wp2_with fail
 refine (c127 n w.heap.size _ d X4 (by simp [go_sem])).mono ?_;rintro e w1 ⟨⟨g,rfl,b,h1⟩,c⟩;have f:=G7 a.size b;have i:=U0 h1;have h:=U0 (X5 a c);clear h1 c a b;go_wp2;go_ret;exact ⟨⟨g,rfl,f,i.out⟩,h.out⟩
theorem c59 (a c:List T.F2) (n d:OA) (o m:Nat) (w:World) (hl:a.length<=1048576) (hl':c.length<=1048576) (I:T.G6 w n a) (H:T.G6 w d c):
 Calls prog 59 #[.agg #[.slice n a.length o],.agg #[.slice d c.length m]] w fun e w'=>Rb (a=c) e/\Bw w w':=by
 go_enter func59,ntmps59
 go_upto_region 1 with fail
 have A:=U0 (G9 (Y4 w [vL n a.length o] 40) (.cells #[vL d c.length m] 40));have z:Hid (Cl ((w.alloc (.cells #[vL n a.length o] 40)).alloc (.cells #[vL d c.length m] 40)) (w.heap.size+1) 40 [vL d c.length m]):=by show Cl _ _ _ _;have h:=Y4 (w.alloc (.cells #[vL n a.length o] 40)) [vL d c.length m] 40;simpa using h
 have J:Hid (Bw w ((w.alloc (.cells #[vL n a.length o] 40)).alloc (.cells #[vL d c.length m] 40))):=P6.alloc X4 _;generalize (w.alloc (.cells #[vL n a.length o] 40)).alloc (.cells #[vL d c.length m] 40)=V at*;have y:=A.out.cell 0;have s:=z.out.cell 0;simp only [gz] at y s;by_cases f:a.length=c.length;rotate_left
 · have u:Hid (¬ a=c):=fun h=>f (by rw [h]);have hn1:¬ (a.length:Int)=c.length:=O0;go_wp2;go_ret;exact ⟨G5 u.out,J.out⟩
 have t:=U0 f;rw [<- f] at s;obtain ⟨b,off,hc⟩:=T.Z9 I;obtain ⟨b',C,D⟩:=T.Z9 H;have HC:=U0 hc;have HC':=U0 D;have S:=U0 A.out.lt;have U:=U0 z.out.lt;clear hc D I H A z f
 go_wp2_with fail
 go_loopw [5] (fun i wr=>∃ (k:Nat),k<=a.length/\i=.int .i64 k/\Hid (∀ j,j<k->a.getD j T.I8=c.getD j T.I8)/\Below V.heap.size V wr) (fun i _=>a.length - (RowKit.intOf i).toNat)
 case atStart=>exact ⟨0,J4 _,rfl,fun j h=>absurd h (J8 _),Z4 _ _⟩
 case round=>
  obtain ⟨k,hk2,rfl,hd,r⟩:=hrel
  replace y:=(r.cell (p:=(aW w 0)) S.out).trans y
  replace s:=(r.cell (p:=(aA (w.heap.size+1) 0)) U.out).trans s
  have l:=U0 (X5 J.out r);by_cases q:k<a.length;rotate_left
  · obtain rfl:k=a.length:=O0;have W:=U0 (Wn t.out hd.out);go_wp2;go_ret;exact ⟨u_ W.out,l.out⟩
  obtain ⟨ha,F,x⟩:=Cc HC.out q;rcases HC'.out with O | ⟨P,E,v⟩
  · have f:=t.out;rw [O] at f;rw [f] at q;exact absurd q (J8 _)
  subst ha;subst P;have g0:=(l.out.cell (p:=(aA b (off+k*2))) F).trans (x k q).1;have g1:=(l.out.cell (p:=(aA b (off+k*2+1))) F).trans (x k q).2;have R:=(l.out.cell (p:=(aA b' (C+k*2))) E).trans (v k (by have:=t.out;omega)).1;have Q:=(l.out.cell (p:=(aA b' (C+k*2+1))) E).trans (v k (by have:=t.out;omega)).2;clear x v;by_cases g:a.getD k T.I8=c.getD k T.I8
  · have Z:Hid (∀ j,j<k+1->a.getD j T.I8=c.getD j T.I8):=fun j hj=>by
     rcases Q7 j k with h | h
     · exact hd.out j h
     · obtain rfl:j=k:=O0;exact g
    rw [<- g] at R Q;generalize a.getD k T.I8=X at*;clear g hd
    go_wp2_with fail
    go_region
    all_goals go_wp2
    all_goals go_roundw
    all_goals first
     | exact ⟨k+1,O0,by go_num,Z,r.drew⟩
     | (simp [RowKit.intOf];omega)
  have u:Hid (¬ a=c):=fun h=>g (by rw [h]);generalize a.getD k T.I8=X at*;generalize c.getD k T.I8=Y at*;obtain ⟨t1,L⟩:=X;obtain ⟨t2,K⟩:=Y;by_cases B:t1=t2
  · subst B;have N:¬ L=K:=fun h=>g (by rw [h]);have q3':=Ub N;clear g
    go_wp2_with fail
    go_region
    all_goals go_wp2
    all_goals go_ret
    all_goals exact ⟨G5 u.out,l.out.drew⟩
  · have q2':=Ub B;clear g
    go_wp2_with fail
    go_region
    all_goals go_wp2
    all_goals go_ret
    all_goals exact ⟨G5 u.out,l.out.drew⟩
theorem c84 (A B:Nat) (a:OA) (n s:Nat) (K:Int) (w:World) (h1:1<=K) (h2:K<=90000000000000) (hn:n<=1048576) (ho:Ow A B w a 133 (n*2)):
 Calls prog 84 #[.slice a n s,.int .i64 K] w fun e w'=>e=.returned (.int .i64 (K+2*(n:Int)))/\Md A B [133] w w':=by
 obtain ⟨g,rfl,hA,hB,d⟩:=ho.nst;have v:=U0 d;clear d ho;go_enter func84,ntmps84
 go_wp2_with fail
 go_loopw [1,5] (fun q i wr=>∃ k:Nat,k<=n/\i=.int .i64 k/\q=.int .i64 (K+2*(k:Int))/\Hid (Ot B wr g 133 (n*2) 0 0 0 0 0)/\Hid (Md A B [133] w wr)) (fun _ i _=>n - (RowKit.intOf i).toNat)
 case atStart=>exact ⟨0,J4 _,rfl,X4,v,Md.refl⟩
 case round=>
  obtain ⟨k,hk,rfl,rfl,m,c⟩:=hrel;by_cases hlt:k<n;rotate_left
  · obtain rfl:k=n:=O0;go_wp2;go_ret;exact ⟨rfl,c.out⟩
  go_wp2_with fail
  refine (Nw _ _ O0 O0).mono ?_;rintro e w1 ⟨⟨s1,rfl⟩,b⟩;have l:=U0 (m.out.call b);have r:=U0 (c.out.trans (Md.of b));clear b m c
  go_wp2_with (refine Pg rfl 9 _ _ rfl (p:=k*2) rfl rfl Y2 l.out r.out ⟨hA,hB,by simp⟩ O0 (fun i h=>absurd h (J8 _)) ?_;intro v2 j o;clear l r)
  refine (Nw _ _ O0 O0).mono ?_;rintro e w3 ⟨⟨s3,rfl⟩,b⟩;have f:=U0 (j.out.call b);have M3:=U0 (o.out.trans (Md.of b));clear b j o
  go_wp2_with (refine Pg rfl 9 _ _ rfl (p:=k*2+1) rfl rfl Y2 f.out M3.out ⟨hA,hB,by simp⟩ O0 (fun i h=>absurd h (J8 _)) ?_;intro v4 t u;clear f M3)
  go_roundw
  case rel=>exact ⟨k+1,O0,by go_num,by go_num,t,u⟩
  case measure=>simp [RowKit.intOf];omega
theorem c42 (A B:Nat) (a:OA) (n s:Nat) (K:Int) (w:World) (h1:1<=K) (h2:K<=90000000000000) (hn:n<=1048576) (ho:Ow A B w a 107 (n*3)):
 Calls prog 42 #[.slice a n s,.int .i64 K] w fun e w'=>e=.returned (.int .i64 (K+3*(n:Int)))/\Md A B [107] w w':=by
 obtain ⟨g,rfl,hA,hB,d⟩:=ho.nst;have v:=U0 d;clear d ho;go_enter func42,ntmps42
 go_wp2_with fail
 go_loopw [1,5] (fun q i wr=>∃ k:Nat,k<=n/\i=.int .i64 k/\q=.int .i64 (K+3*(k:Int))/\Hid (Ot B wr g 107 (n*3) 0 0 0 0 0)/\Hid (Md A B [107] w wr)) (fun _ i _=>n - (RowKit.intOf i).toNat)
 case atStart=>exact ⟨0,J4 _,rfl,X4,v,Md.refl⟩
 case round=>
  obtain ⟨k,hk,rfl,rfl,m,c⟩:=hrel;by_cases hlt:k<n;rotate_left
  · obtain rfl:k=n:=O0;go_wp2;go_ret;exact ⟨rfl,c.out⟩
  go_wp2_with fail
  refine (Nw _ _ O0 O0).mono ?_;rintro e w1 ⟨⟨s1,rfl⟩,b⟩;have l:=U0 (m.out.call b);have r:=U0 (c.out.trans (Md.of b));clear b m c
  go_wp2_with (first | (refine Pg rfl 9 _ _ rfl (p:=k*3) rfl rfl Y2 l.out r.out ⟨hA,hB,by simp⟩ O0 (fun i h=>absurd h (J8 _)) ?_;intro v2 j o;clear l r) | (refine Pg rfl 3 _ _ rfl (p:=k*3+1) rfl rfl Y2 j.out o.out ⟨hA,hB,by simp⟩ O0 (fun i h=>absurd h (J8 _)) ?_;intro v3 f M3;clear j o) | (refine Pg rfl 3 _ _ rfl (p:=k*3+2) rfl rfl Y2 f.out M3.out ⟨hA,hB,by simp⟩ O0 (fun i h=>absurd h (J8 _)) ?_;intro v4 t u;clear f M3))
  go_roundw
  case rel=>exact ⟨k+1,O0,by go_num,by go_num,t,u⟩
  case measure=>simp [RowKit.intOf];omega
theorem a2L (A B:Nat) (a:OA) (n u:Nat) (K:Int) (w:World) (h1:1<=K) (h2:K<=90000000000000) (hn:n<=1048576) (ho:Ow A B w a 205 (n*3)):
 Calls prog 132 #[.slice a n u,.int .i64 K] w fun e w'=>e=.returned (.int .i64 (K+3*(n:Int)))/\Md A B [205] w w':=by
 obtain ⟨g,rfl,hA,hB,d⟩:=ho.nst;have y:=U0 d;clear d ho;go_enter func132,ntmps132
 go_wp2_with fail
 go_loopw [1,5] (fun q i wr=>∃ k:Nat,k<=n/\i=.int .i64 k/\q=.int .i64 (K+3*(k:Int))/\Hid (Ot B wr g 205 (n*3) 0 0 0 0 0)/\Hid (Md A B [205] w wr)) (fun _ i _=>n - (RowKit.intOf i).toNat)
 case atStart=>exact ⟨0,J4 _,rfl,X4,y,Md.refl⟩
 case round=>
  obtain ⟨k,hk,rfl,rfl,o,c⟩:=hrel;by_cases hlt:k<n;rotate_left
  · obtain rfl:k=n:=O0;go_wp2;go_ret;exact ⟨rfl,c.out⟩
  go_wp2_with (refine Pg rfl 4 _ _ rfl (p:=k*3) rfl rfl Y2 o.out c.out ⟨hA,hB,by simp⟩ O0 (fun i h=>absurd h (J8 _)) ?_;intro v1 m t;clear o c)
  refine (Nw _ _ O0 O0).mono ?_;rintro e w2 ⟨⟨s2,rfl⟩,b⟩;have l:=U0 (m.out.call b);have s:=U0 (t.out.trans (Md.of b));clear b m t
  go_wp2_with (refine Pg rfl 9 _ _ rfl (p:=k*3+1) rfl rfl Y2 l.out s.out ⟨hA,hB,by simp⟩ O0 (fun i h=>absurd h (J8 _)) ?_;intro v3 j M3;clear l s)
  refine (Nw _ _ O0 O0).mono ?_;rintro e w4 ⟨⟨s4,rfl⟩,b⟩;have f:=U0 (j.out.call b);have r:=U0 (M3.out.trans (Md.of b));clear b j M3
  go_wp2_with (refine Pg rfl 9 _ _ rfl (p:=k*3+2) rfl rfl Y2 f.out r.out ⟨hA,hB,by simp⟩ O0 (fun i h=>absurd h (J8 _)) ?_;intro v5 v x;clear f r)
  go_roundw
  case rel=>exact ⟨k+1,O0,by go_num,by go_num,v,x⟩
  case measure=>simp [RowKit.intOf];omega
theorem c87 (A B:Nat) (a:OA) (n x:Nat) (K:Int) (w:World) (h1:1<=K) (h2:K<=90000000000000) (hn:n<=1048576) (ho:Ow A B w a 185 (n*4)):
 Calls prog 87 #[.slice a n x,.int .i64 K] w fun e w'=>e=.returned (.int .i64 (K+4*(n:Int)))/\Md A B [185] w w':=by
 obtain ⟨g,rfl,hA,hB,d⟩:=ho.nst;have C:=U0 d;clear d ho;go_enter func87,ntmps87
 go_wp2_with fail
 go_loopw [1,5] (fun q i wr=>∃ k:Nat,k<=n/\i=.int .i64 k/\q=.int .i64 (K+4*(k:Int))/\Hid (Ot B wr g 185 (n*4) 0 0 0 0 0)/\Hid (Md A B [185] w wr)) (fun _ i _=>n - (RowKit.intOf i).toNat)
 case atStart=>exact ⟨0,J4 _,rfl,X4,C,Md.refl⟩
 case round=>
  obtain ⟨k,hk,rfl,rfl,r,c⟩:=hrel;by_cases hlt:k<n;rotate_left
  · obtain rfl:k=n:=O0;go_wp2;go_ret;exact ⟨rfl,c.out⟩
  go_wp2_with (refine Pg rfl 4 _ _ rfl (p:=k*4) rfl rfl Y2 r.out c.out ⟨hA,hB,by simp⟩ O0 (fun i h=>absurd h (J8 _)) ?_;intro v1 o v;clear r c)
  refine (Nw _ _ O0 O0).mono ?_;rintro e w2 ⟨⟨s2,rfl⟩,b⟩;have m:=U0 (o.out.call b);have u:=U0 (v.out.trans (Md.of b));clear b o v
  go_wp2_with (first | (refine Pg rfl 9 _ _ rfl (p:=k*4+1) rfl rfl Y2 m.out u.out ⟨hA,hB,by simp⟩ O0 (fun i h=>absurd h (J8 _)) ?_;intro v3 l M3;clear m u) | (refine Pg rfl 3 _ _ rfl (p:=k*4+2) rfl rfl Y2 l.out M3.out ⟨hA,hB,by simp⟩ O0 (fun i h=>absurd h (J8 _)) ?_;intro v4 j t;clear l M3))
  refine (Nw _ _ O0 O0).mono ?_;rintro e w5 ⟨⟨s5,rfl⟩,b⟩;have f:=U0 (j.out.call b);have s:=U0 (t.out.trans (Md.of b));clear b j t
  go_wp2_with (refine Pg rfl 9 _ _ rfl (p:=k*4+3) rfl rfl Y2 f.out s.out ⟨hA,hB,by simp⟩ O0 (fun i h=>absurd h (J8 _)) ?_;intro v6 y z;clear f s)
  go_roundw
  case rel=>exact ⟨k+1,O0,by go_num,by go_num,y,z⟩
  case measure=>simp [RowKit.intOf];omega
theorem c85 (A B:Nat) (a:OA) (n F:Nat) (K:Int) (w:World) (h1:1<=K) (h2:K<=50000000000000) (hn:n<=1048576) (ho:kU A B w a 145 n 3 1 205 3):
 Calls prog 85 #[.slice a n F,.int .i64 K] w fun e w'=>(∃ X:Int,e=.returned (.int .i64 X)/\K<=X/\X<=K+3145730*(n:Int))/\Md A B [145,205] w w':=by
 obtain ⟨g,rfl,hA,hB,f⟩:=ho;have L:=U0 f;clear f;go_enter func85,ntmps85
 go_wp2_with fail
 go_loopw [1,5] (fun q i wr=>∃ (k:Nat) (X:Int),k<=n/\i=.int .i64 k/\q=.int .i64 X/\K<=X/\X<=K+3145730*(k:Int)/\Hid (Ot B wr g 145 (n*3) n 3 1 205 3)/\Hid (Md A B [145,205] w wr)) (fun _ i _=>n - (RowKit.intOf i).toNat)
 case atStart=>exact ⟨0,K,J4 _,rfl,rfl,zy _,O0,L,Md.refl⟩
 case round=>
  obtain ⟨k,X,hk,rfl,rfl,D,C,r,d⟩:=hrel;by_cases z:k<n;rotate_left
  · obtain rfl:k=n:=O0;go_wp2;go_ret;exact ⟨⟨X,rfl,D,C⟩,d.out⟩
  go_wp2_with fail
  refine (Nw _ _ O0 O0).mono ?_;rintro e w1 ⟨⟨s1,rfl⟩,b⟩;have o:=U0 (r.out.call b);have u:=U0 (d.out.trans (Md.of b));clear b r d
  go_wp2_with (refine Pg rfl 9 _ _ rfl (p:=k*3) rfl rfl Y2 o.out u.out ⟨hA,hB,by simp⟩ O0 (fun i h=>O0) ?_;intro v2 c t;clear o u;obtain ⟨H,v,E,x,y,j⟩:=c.out.2 k z)
  refine (a2L (g+1) B H v E _ _ O0 O0 y j).mono ?_;rintro e w3 ⟨rfl,hm⟩;have m:=U0 (c.out.in_ hm);have M3:=U0 (t.out.trans (hm.mono O0 H8 (by simp)));clear hm x j c t
  go_wp2_with fail
  refine (Nw _ _ O0 O0).mono ?_;rintro e w4 ⟨⟨s4,rfl⟩,b⟩;have l:=U0 (m.out.call b);have s:=U0 (M3.out.trans (Md.of b));clear b m M3
  go_wp2_with (refine Pg rfl 9 _ _ rfl (p:=k*3+2) rfl rfl Y2 l.out s.out ⟨hA,hB,by simp⟩ O0 (fun i h=>O0) ?_;intro v5 I J;clear l s)
  go_roundw
  case rel=>exact ⟨k+1,_,O0,by go_num,rfl,O0,O0,I,J⟩
  case measure=>simp [RowKit.intOf];omega
theorem c41 (A B:Nat) (a:OA) (n Q:Nat) (K:Int) (w:World) (h1:1<=K) (h2:K<=50000000000000) (hn:n<=1048576) (ho:kU A B w a 105 n 6 3 185 4):
 Calls prog 41 #[.slice a n Q,.int .i64 K] w fun e w'=>(∃ X:Int,e=.returned (.int .i64 X)/\K<=X/\X<=K+4194309*(n:Int))/\Md A B [105,185] w w':=by
 obtain ⟨g,rfl,hA,hB,f⟩:=ho;have V:=U0 f;clear f;go_enter func41,ntmps41
 go_wp2_with fail
 go_loopw [1,5] (fun q i wr=>∃ (k:Nat) (X:Int),k<=n/\i=.int .i64 k/\q=.int .i64 X/\K<=X/\X<=K+4194309*(k:Int)/\Hid (Ot B wr g 105 (n*6) n 6 3 185 4)/\Hid (Md A B [105,185] w wr)) (fun _ i _=>n - (RowKit.intOf i).toNat)
 case atStart=>exact ⟨0,K,J4 _,rfl,rfl,zy _,O0,V,Md.refl⟩
 case round=>
  obtain ⟨k,X,hk,rfl,rfl,O,N,v,d⟩:=hrel;by_cases L:k<n;rotate_left
  · obtain rfl:k=n:=O0;go_wp2;go_ret;exact ⟨⟨X,rfl,O,N⟩,d.out⟩
  go_wp2_with fail
  refine (Nw _ _ O0 O0).mono ?_;rintro e w1 ⟨⟨s1,rfl⟩,b⟩;have u:=U0 (v.out.call b);have F:=U0 (d.out.trans (Md.of b));clear b v d
  go_wp2_with (first | (refine Pg rfl 9 _ _ rfl (p:=k*6) rfl rfl Y2 u.out F.out ⟨hA,hB,by simp⟩ O0 (fun i h=>O0) ?_;intro v2 t E;clear u F) | (refine Pg rfl 3 _ _ rfl (p:=k*6+1) rfl rfl Y2 t.out E.out ⟨hA,hB,by simp⟩ O0 (fun i h=>O0) ?_;intro v3 s M3;clear t E))
  refine (Nw _ _ O0 O0).mono ?_;rintro e w4 ⟨⟨s4,rfl⟩,b⟩;have r:=U0 (s.out.call b);have D:=U0 (M3.out.trans (Md.of b));clear b s M3
  go_wp2_with (refine Pg rfl 9 _ _ rfl (p:=k*6+2) rfl rfl Y2 r.out D.out ⟨hA,hB,by simp⟩ O0 (fun i h=>O0) ?_;intro v5 c C;clear r D;obtain ⟨R,H,P,I,J,j⟩:=c.out.2 k L)
  refine (c87 (g+1) B R H P _ _ O0 O0 J j).mono ?_;rintro e w6 ⟨rfl,hm⟩;have o:=U0 (c.out.in_ hm);have z:=U0 (C.out.trans (hm.mono O0 H8 (by simp)));clear hm I j c C
  go_wp2_with (refine Pg rfl 3 _ _ rfl (p:=k*6+4) rfl rfl Y2 o.out z.out ⟨hA,hB,by simp⟩ O0 (fun i h=>O0) ?_;intro v7 m y;clear o z)
  refine (Nw _ _ O0 O0).mono ?_;rintro e w8 ⟨⟨s8,rfl⟩,b⟩;have l:=U0 (m.out.call b);have x:=U0 (y.out.trans (Md.of b));clear b m y
  go_wp2_with (refine Pg rfl 9 _ _ rfl (p:=k*6+5) rfl rfl Y2 l.out x.out ⟨hA,hB,by simp⟩ O0 (fun i h=>O0) ?_;intro v9 S U;clear l x)
  go_roundw
  case rel=>exact ⟨k+1,_,O0,by go_num,rfl,O0,O0,S,U⟩
  case measure=>simp [RowKit.intOf];omega
theorem a2n (K:Int) (w:World):Calls prog 39 #[.slice none 0 0,.int .i64 K] w fun e w'=>e=.returned (.int .i64 K)/\w'=w:=by
 go_enter func39,ntmps39
 go_wp2_with fail
 go_loopw [1,5] (fun q i wr=>q=.int .i64 K/\i=.int .i64 0/\wr=w) (fun _ _ _=>0)
 case atStart=>exact ⟨rfl,rfl,rfl⟩
 case round=>
  obtain ⟨rfl,rfl,h⟩:=hrel;subst h;go_wp2;go_ret;exact ⟨rfl,rfl⟩
theorem LV (K:Int) (w:World):Calls prog 40 #[.slice none 0 0,.int .i64 K] w fun e w'=>e=.returned (.int .i64 K)/\w'=w:=by
 go_enter func40,ntmps40
 go_wp2_with fail
 go_loopw [1,5] (fun q i wr=>q=.int .i64 K/\i=.int .i64 0/\wr=w) (fun _ _ _=>0)
 case atStart=>exact ⟨rfl,rfl,rfl⟩
 case round=>
  obtain ⟨rfl,rfl,h⟩:=hrel;subst h;go_wp2;go_ret;exact ⟨rfl,rfl⟩
theorem a1Y (K:Int) (w:World):Calls prog 84 #[.slice none 0 0,.int .i64 K] w fun e w'=>e=.returned (.int .i64 K)/\w'=w:=by
 go_enter func84,ntmps84
 go_wp2_with fail
 go_loopw [1,5] (fun q i wr=>q=.int .i64 K/\i=.int .i64 0/\wr=w) (fun _ _ _=>0)
 case atStart=>exact ⟨rfl,rfl,rfl⟩
 case round=>
  obtain ⟨rfl,rfl,h⟩:=hrel;subst h;go_wp2;go_ret;exact ⟨rfl,rfl⟩
theorem a2P (K:Int) (w:World):Calls prog 85 #[.slice none 0 0,.int .i64 K] w fun e w'=>e=.returned (.int .i64 K)/\w'=w:=by
 go_enter func85,ntmps85
 go_wp2_with fail
 go_loopw [1,5] (fun q i wr=>q=.int .i64 K/\i=.int .i64 0/\wr=w) (fun _ _ _=>0)
 case atStart=>exact ⟨rfl,rfl,rfl⟩
 case round=>
  obtain ⟨rfl,rfl,h⟩:=hrel;subst h;go_wp2;go_ret;exact ⟨rfl,rfl⟩
theorem a4d (K:Int) (w:World):Calls prog 41 #[.slice none 0 0,.int .i64 K] w fun e w'=>e=.returned (.int .i64 K)/\w'=w:=by
 go_enter func41,ntmps41
 go_wp2_with fail
 go_loopw [1,5] (fun q i wr=>q=.int .i64 K/\i=.int .i64 0/\wr=w) (fun _ _ _=>0)
 case atStart=>exact ⟨rfl,rfl,rfl⟩
 case round=>
  obtain ⟨rfl,rfl,h⟩:=hrel;subst h;go_wp2;go_ret;exact ⟨rfl,rfl⟩
theorem a3m (K:Int) (w:World):Calls prog 42 #[.slice none 0 0,.int .i64 K] w fun e w'=>e=.returned (.int .i64 K)/\w'=w:=by
 go_enter func42,ntmps42
 go_wp2_with fail
 go_loopw [1,5] (fun q i wr=>q=.int .i64 K/\i=.int .i64 0/\wr=w) (fun _ _ _=>0)
 case atStart=>exact ⟨rfl,rfl,rfl⟩
 case round=>
  obtain ⟨rfl,rfl,h⟩:=hrel;subst h;go_wp2;go_ret;exact ⟨rfl,rfl⟩
theorem a3M (K:Int) (w:World):Calls prog 46 #[.slice none 0 0,.int .i64 K] w fun e w'=>e=.returned (.int .i64 K)/\w'=w:=by
 go_enter func46,ntmps46
 go_wp2_with fail
 go_loopw [1,5] (fun q i wr=>q=.int .i64 K/\i=.int .i64 0/\wr=w) (fun _ _ _=>0)
 case atStart=>exact ⟨rfl,rfl,rfl⟩
 case round=>
  obtain ⟨rfl,rfl,h⟩:=hrel;subst h;go_wp2;go_ret;exact ⟨rfl,rfl⟩
theorem jW (K:Int) (w:World):Calls prog 47 #[.slice none 0 0,.int .i64 K] w fun e w'=>e=.returned (.int .i64 K)/\w'=w:=by
 go_enter func47,ntmps47
 go_wp2_with fail
 go_loopw [1,5] (fun q i wr=>q=.int .i64 K/\i=.int .i64 0/\wr=w) (fun _ _ _=>0)
 case atStart=>exact ⟨rfl,rfl,rfl⟩
 case round=>
  obtain ⟨rfl,rfl,h⟩:=hrel;subst h;go_wp2;go_ret;exact ⟨rfl,rfl⟩
theorem a2B (K:Int) (w:World):Calls prog 48 #[.slice none 0 0,.int .i64 K] w fun e w'=>e=.returned (.int .i64 K)/\w'=w:=by
 go_enter func48,ntmps48
 go_wp2_with fail
 go_loopw [1,5] (fun q i wr=>q=.int .i64 K/\i=.int .i64 0/\wr=w) (fun _ _ _=>0)
 case atStart=>exact ⟨rfl,rfl,rfl⟩
 case round=>
  obtain ⟨rfl,rfl,h⟩:=hrel;subst h;go_wp2;go_ret;exact ⟨rfl,rfl⟩
theorem a1S (K:Int) (w:World):Calls prog 49 #[.slice none 0 0,.int .i64 K] w fun e w'=>e=.returned (.int .i64 K)/\w'=w:=by
 go_enter func49,ntmps49
 go_wp2_with fail
 go_loopw [1,5] (fun q i wr=>q=.int .i64 K/\i=.int .i64 0/\wr=w) (fun _ _ _=>0)
 case atStart=>exact ⟨rfl,rfl,rfl⟩
 case round=>
  obtain ⟨rfl,rfl,h⟩:=hrel;subst h;go_wp2;go_ret;exact ⟨rfl,rfl⟩
theorem a3u (K:Int) (w:World):Calls prog 88 #[.slice none 0 0,.int .i64 K] w fun e w'=>e=.returned (.int .i64 K)/\w'=w:=by
 go_enter func88,ntmps88
 go_wp2_with fail
 go_loopw [1,5] (fun q i wr=>q=.int .i64 K/\i=.int .i64 0/\wr=w) (fun _ _ _=>0)
 case atStart=>exact ⟨rfl,rfl,rfl⟩
 case round=>
  obtain ⟨rfl,rfl,h⟩:=hrel;subst h;go_wp2;go_ret;exact ⟨rfl,rfl⟩
theorem a2S (K:Int) (w:World):Calls prog 89 #[.slice none 0 0,.int .i64 K] w fun e w'=>e=.returned (.int .i64 K)/\w'=w:=by
 go_enter func89,ntmps89
 go_wp2_with fail
 go_loopw [1,5] (fun q i wr=>q=.int .i64 K/\i=.int .i64 0/\wr=w) (fun _ _ _=>0)
 case atStart=>exact ⟨rfl,rfl,rfl⟩
 case round=>
  obtain ⟨rfl,rfl,h⟩:=hrel;subst h;go_wp2;go_ret;exact ⟨rfl,rfl⟩
theorem c46 (g f n:Nat) (K:Int) (w:World) (t:TypeId) (h1:1<=K) (h2:K<=90000000000000) (hn:n<=1048576) (h:QT w g t mI K n):
 Calls prog 46 #[.slice (some ⟨g,0,none⟩) n f,.int .i64 K] w fun e w'=>e=.returned (.int .i64 (K+(n:Int)))/\Bw w w':=by
 have b:=U0 h;clear h;go_enter func46,ntmps46
 go_wp2_with fail
 go_loopw [1,5] (fun q i wr=>∃ (k:Nat),k<=n/\i=.int .i64 k/\q=.int .i64 (K+(k:Int))/\Below w.heap.size w wr) (fun _ i _=>n - (RowKit.intOf i).toNat)
 case atStart=>exact ⟨0,J4 _,rfl,X4,Z4 _ _⟩
 case round=>
  obtain ⟨k,hk,rfl,rfl,a⟩:=hrel;by_cases d:k<n;rotate_left
  · obtain rfl:k=n:=O0;go_wp2;go_ret;exact ⟨rfl,a⟩
  have g0:∀ u,Bw wr u->u.cell? (aA g k)=some (mI (K+(k:Int))):=fun u c=>by
   obtain ⟨ys,h1,h2⟩:=b.out.keep (a.block g b.out.lt);rw [(h1.below c h1.lt).cell];exact h2 k d
  have q0:wr.cell? (aA g k)=some (vI (K+(k:Int))):=g0 _ (Z4 _ _);clear g0;go_wp2;go_roundw
  case rel=>exact ⟨k+1,O0,by go_num,by go_num,a⟩
  case measure=>simp [RowKit.intOf];omega
theorem c47 (g p n:Nat) (K:Int) (w:World) (t:TypeId) (h1:1<=K) (h2:K<=90000000000000) (hn:n<=1048576) (h:QT w g t mT K n):
 Calls prog 47 #[.slice (some ⟨g,0,none⟩) n p,.int .i64 K] w fun e w'=>e=.returned (.int .i64 (K+(n:Int)))/\Bw w w':=by
 have d:=U0 h;clear h;go_enter func47,ntmps47
 go_wp2_with fail
 go_loopw [1,5] (fun q i wr=>∃ (k:Nat),k<=n/\i=.int .i64 k/\q=.int .i64 (K+(k:Int))/\Below w.heap.size w wr) (fun _ i _=>n - (RowKit.intOf i).toNat)
 case atStart=>exact ⟨0,J4 _,rfl,X4,Z4 _ _⟩
 case round=>
  obtain ⟨k,hk,rfl,rfl,a⟩:=hrel;by_cases l:k<n;rotate_left
  · obtain rfl:k=n:=O0;go_wp2;go_ret;exact ⟨rfl,a⟩
  have g0:∀ u,Bw wr u->u.cell? (aA g k)=some (mT (K+(k:Int))):=fun u j=>by
   obtain ⟨ys,h1,h2⟩:=d.out.keep (a.block g d.out.lt);rw [(h1.below j h1.lt).cell];exact h2 k l
  have o:=fun u=>c86 (K+(k:Int)) u O0 O0;unfold mT at g0;have f:=U0 g0;clear g0;generalize J3 (109::dec (K+(k:Int)))=mx at*
  go_wp2_with fail
  have hd:Bw wr wr.drew:=(Z4 _ _).drew;refine wp_region_held_drew (S:=fun u=>u.cell? (aA g k)=some (vS mx)) Y2 (f.out _ hd) fun hH=>?_;refine Y0 0 ?_;refine Y0 1 ?_;refine Y0 2 ?_;refine Y0 3 ?_;refine Y0 4 ?_;refine rq 5 fun K c=>?_;go_simp;refine (o _).mono ?_;rintro e w1 ⟨rfl,m⟩;have b:=hd.trans (m.mono H8)
  go_wp2_with fail
  refine E8 c (f.out _ b) fun hH=>?_;clear c K;refine Y0 6 ?_;refine wdn ?_;go_wp2;go_roundw
  case rel=>exact ⟨k+1,O0,by go_num,by go_num,X5 a b⟩
  case measure=>simp [RowKit.intOf];omega
