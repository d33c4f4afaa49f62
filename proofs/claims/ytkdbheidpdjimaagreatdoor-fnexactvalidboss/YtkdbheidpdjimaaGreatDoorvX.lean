import Derived.Test.YtkdbheidpdjimaaGreatDoorvY
import Derived.Test.YtkdbheidpdjimaaGreatDoorvS
import Derived.Test.YtkdbheidpdjimaaGreatDoorvR
import Derived.Lib.AppendZeros
set_option linter.unusedVariables false
set_option maxHeartbeats 8000000
set_option maxRecDepth 100000
namespace Go.Proofs.YtkdbheidpdjimaaGreatDoor
open Proofs.Tryz Go.RowKit
theorem c8 (b:Bs) (q p:Ba) (w:World) (hl:Bo b 1048576) (F:Dn w b q) (H:Dn w b p):
 Calls prog 8 #[.agg (bsV b q).toArray,.agg (bsV b p).toArray] w fun e w'=>e=.returned (.bool true)/\Bw w w':=by
 have X:=U0 F;have Y:=U0 H;have c:=U0 hl;clear F H hl;go_enter func8,ntmps8
 go_upto_region 1 with fail
 have f:=U0 (Oa (G6 w (bsV b q) 48) (.cells (bsV b p).toArray 48));have d:Hid (Cl ((w.alloc (.cells (bsV b q).toArray 48)).alloc (.cells (bsV b p).toArray 48)) (w.heap.size+1) 48 (bsV b p)):=by show Cl _ _ _ _;have h:=G6 (w.alloc (.cells (bsV b q).toArray 48)) (bsV b p) 48;simpa using h
 have k:Hid (Bw w ((w.alloc (.cells (bsV b q).toArray 48)).alloc (.cells (bsV b p).toArray 48))):=o7.alloc I4 _;generalize (w.alloc (.cells (bsV b q).toArray 48)).alloc (.cells (bsV b p).toArray 48)=V0 at*;have a0:=f.out.cell 0;have d0:=d.out.cell 0;have a1:=f.out.cell 1;have Z:=d.out.cell 1;have a2:=f.out.cell 2;have Q:=d.out.cell 2;have a3:=f.out.cell 3;have P:=d.out.cell 3;have a4:=f.out.cell 4;have O:=d.out.cell 4;have a5:=f.out.cell 5;have N:=d.out.cell 5;have a6:=f.out.cell 6;have L:=d.out.cell 6;simp only [@gz Value] at a0 d0 a1 Z a2 Q a3 P a4 O a5 N a6 L
 go_wp2_with fail
 clear a0 d0 a1 Z a2 Q a3 P a4 O a5 N a6 L;refine (c43 q.sa q.la p.sa p.la q.sc q.lc p.sc p.lc b.sf b.lo V0 c.out.sl c.out.ll (Z5 X.out.sf k.out) (Z5 X.out.lo k.out) (Z5 Y.out.sf k.out) (Z5 Y.out.lo k.out)).mono ?_;rintro e V1 ⟨rfl,a⟩;have E:=U0 (G7 k.out a);have y:=U0 (f.out.below a f.out.lt);have r:=U0 (d.out.below a d.out.lt);clear a f d k;have a7:=y.out.cell 7;have K:=r.out.cell 7;simp only [@gz Value] at a7 K
 go_wp2_with fail
 clear a7 K;refine (T.c44 q.fa p.fa q.fc p.fc b.fs V1 c.out.fl (T.U5 X.out.fs E.out) (T.U5 Y.out.fs E.out)).mono ?_;rintro e V2 ⟨rfl,a⟩;have D:=U0 (G7 E.out a);have j:=U0 (y.out.below a y.out.lt);have g:=U0 (r.out.below a r.out.lt);clear a y r E;have a8:=j.out.cell 8;have J:=g.out.cell 8;have a9:=j.out.cell 9;have I:=g.out.cell 9;have a10:=j.out.cell 10;have W:=g.out.cell 10;simp only [@gz Value] at a8 J a9 I a10 W
 go_wp2_with fail
 clear a8 J a9 I a10 W;refine (a1S q.ta q.ra p.ta p.ra q.tc q.rc p.tc p.rc b.s V2 ⟨c.out.st.1.1,c.out.st.2.1,fun i=>(c.out.st.2.2 i).2.1⟩ (X.out.st.below D.out) (Y.out.st.below D.out)).mono ?_;rintro e V3 ⟨rfl,a⟩;have C:=U0 (G7 D.out a);have x:=U0 (j.out.below a j.out.lt);have o:=U0 (g.out.below a g.out.lt);clear a j g D;have a11:=x.out.cell 11;have V:=o.out.cell 11;simp only [@gz Value] at a11 V
 go_wp2_with fail
 clear a11 V;refine (c46 q.ha p.ha q.hc p.hc b.hd V3 c.out.hl (oh X.out.hd C.out) (oh Y.out.hd C.out)).mono ?_;rintro e V4 ⟨rfl,a⟩;have B:=U0 (G7 C.out a);have v:=U0 (x.out.below a x.out.lt);have n:=U0 (o.out.below a o.out.lt);clear a x o C;have a12:=v.out.cell 12;have U:=n.out.cell 12;simp only [@gz Value] at a12 U
 go_wp2_with fail
 clear a12 U;refine (c47 q.oa p.oa q.oc p.oc b.rt V4 c.out.rl (Z5 X.out.rt B.out) (Z5 Y.out.rt B.out)).mono ?_;rintro e V5 ⟨rfl,a⟩;have A:=U0 (G7 B.out a);have u:=U0 (v.out.below a v.out.lt);have m:=U0 (n.out.below a n.out.lt);clear a v n B;have a13:=u.out.cell 13;have S:=m.out.cell 13;simp only [@gz Value] at a13 S
 go_wp2_with fail
 clear a13 S;refine (c48 q.na p.na q.nc p.nc b.rn V5 c.out.nl (fun i=>(c.out.ns i).2.2.1.1) (rf X.out.rn A.out) (rf Y.out.rn A.out)).mono ?_;rintro e V6 ⟨rfl,a⟩;have z:=U0 (G7 A.out a);have t:=U0 (u.out.below a u.out.lt);have l:=U0 (m.out.below a m.out.lt);clear a u m A;have a14:=t.out.cell 14;have R:=l.out.cell 14;simp only [@gz Value] at a14 R
 go_wp2_with fail
 clear a14 R;refine (c49 q.ja p.ja q.jc p.jc b.jb V6 c.out.jl (Xk X.out.jb z.out) (Xk Y.out.jb z.out)).mono ?_;rintro e V7 ⟨rfl,a⟩;have B7:=U0 (G7 z.out a);have C7:=U0 (t.out.below a t.out.lt);have D7:=U0 (l.out.below a l.out.lt);clear a t l z;go_wp2;go_ret;exact ⟨rfl,B7.out⟩
theorem c61 (x:Rn) (c:OA) (b:Nat) (w:World):
 Calls prog 61 #[.agg #[.string x.nm,.int .i64 x.md,.string x.wt,.slice c x.ls.length b,.int .i64 x.cd,.string x.tx]] w fun e w'=>Rb (x.md=1/\x.wt=⟨#[]⟩) e/\Bw w w':=by
 go_enter func61,ntmps61
 go_upto_region 1 with fail
 have g:=U0 (G6 w [vS x.nm,vI x.md,vS x.wt,vL c x.ls.length b,vI x.cd,vS x.tx] 115);have d:=U0 (o7 (w:=w) (o:=.cells #[vS x.nm,vI x.md,vS x.wt,vL c x.ls.length b,vI x.cd,vS x.tx] 115));generalize w.alloc (.cells #[vS x.nm,vI x.md,vS x.wt,vL c x.ls.length b,vI x.cd,vS x.tx] 115)=V at*;have f:=g.out.cell 1;have a2:=g.out.cell 2;simp only [@gz Value] at f a2;by_cases h1:x.md=1;rotate_left
 · have a:Hid (¬ (x.md=1/\x.wt=⟨#[]⟩)):=fun h=>h1 h.1;go_wp2;go_ret;exact ⟨G5 a.out,d.out⟩
 rw [h1] at f;by_cases h2:x.wt=⟨#[]⟩
 · have i:Hid (x.md=1/\x.wt=⟨#[]⟩):=⟨h1,h2⟩;rw [h2] at a2;go_wp2;go_ret;exact ⟨C_ i.out,d.out⟩
 have a:Hid (¬ (x.md=1/\x.wt=⟨#[]⟩)):=fun h=>h2 h.2;have z:=uf h2;go_wp2;go_ret;exact ⟨by first | exact G5 a.out | (rw [z];exact G5 a.out) | (simp only [z];exact G5 a.out),d.out⟩
def AtR (rn:List Rn) (nm:BY) (r:Int):Prop:=(r= -1/\∀ i,i<rn.length->(rn.getD i Aa).nm≠nm)\/∃ i:Nat,r=i/\i<rn.length/\(rn.getD i Aa).nm=nm/\∀ j,j<i->(rn.getD j Aa).nm≠nm
theorem c60 (b:Bs) (q:Ba) (nm:BY) (w:World) (hl:b.rn.length<=1048576) (l:Dj w q.na b.rn):
 Calls prog 60 #[.agg (bsV b q).toArray,.string nm] w fun e w'=>(∃ r,e=.returned (.int .i64 r)/\AtR b.rn nm r)/\Bw w w':=by
 obtain ⟨s,off,hc⟩:=P_ l;have x:=U0 hc;clear l hc;go_enter func60,ntmps60
 go_upto_region 1 with fail
 have y:=U0 (G6 w (bsV b q) 48);have d:=U0 (o7 (w:=w) (o:=.cells (bsV b q).toArray 48));generalize w.alloc (.cells (bsV b q).toArray 48)=V at*;have m:=y.out.cell 13;simp only [@gz Value] at m
 go_wp2_with fail
 go_loop [5] (fun i=>∃ k:Nat,k<=b.rn.length/\i=.int .i64 k/\Hid (∀ j,j<k->(b.rn.getD j Aa).nm≠nm)) (fun i=>b.rn.length - (intOf i).toNat)
 case atStart=>exact ⟨0,D5 _,rfl,fun j h=>absurd h (o9 _)⟩
 case round=>
  obtain ⟨k,hk,rfl,hd⟩:=hrel;by_cases a:k<b.rn.length;rotate_left
  · obtain rfl:k=b.rn.length:=O0;have c:Hid (AtR b.rn nm (-1)):=.inl ⟨rfl,hd.out⟩;go_wp2;go_ret;exact ⟨⟨_,rfl,c.out⟩,d.out⟩
  obtain ⟨ha,p,f⟩:=Nc x.out a;have g0:V.cell? (aA s (off+k*6))=some (vS (b.rn.getD k Aa).nm):=by
   obtain ⟨_,_,g,_⟩:=(f k a).below p d.out;exact g 0 _ rfl
  rw [ha] at m;have c:Hid ((b.rn.getD k Aa).nm=nm->AtR b.rn nm k):=fun h=>.inr ⟨k,rfl,a,h,hd.out⟩;have v:Hid ((b.rn.getD k Aa).nm≠nm->∀ j,j<k+1->(b.rn.getD j Aa).nm≠nm):=fun n j hj=>by
   rcases o8 j k with h | h
   · exact hd.out j h
   · obtain rfl:j=k:=O0;exact n
  generalize (b.rn.getD k Aa).nm=X at*;clear f hd ha;by_cases hx:X=nm
  · have t:=U0 (c.out hx);have z:(X.toList==nm.toList)=true:=by rw [hx];exact beq_self_eq_true _
    go_wp2;go_ret;exact ⟨⟨_,rfl,t.out⟩,d.out⟩
  have u:=U0 (v.out hx);have z:(X.toList==nm.toList)=false:=n_.2 (Zb hx);go_wp2
  go_round
  case rel=>exact ⟨k+1,O0,by go_num,u⟩
  case measure=>simp [intOf];omega
def iC (b:Bs):Prop:=(∀ i,i<b.hd.length->b.hd.getD i 0= -1)/\b.ep=0/\b.ed=0/\b.fs=[]/\b.s=⟨0,[],[]⟩/\b.rt=[]/\b.rn=[]/\b.jb=[]
theorem IU {s:St} (h:s.le 1048576):s.ts.length<=1048576/\s.rs.length<=1048576/\∀ i,(s.rs.getD i g_).gs.length<=1048576:=⟨h.1.1,h.2.1,fun i=>(h.2.2 i).2.1⟩
theorem VZ:(⟨0,[],[]⟩:St).ts.length<=1048576/\(⟨0,[],[]⟩:St).rs.length<=1048576/\∀ i,((⟨0,[],[]⟩:St).rs.getD i g_).gs.length<=1048576:=⟨O6,O6,fun i=>by show (0:Nat)<=_;omega⟩
theorem dQ {w:World} {g n:Nat} (h:Cl w g 3 (List.replicate n (.int .i64 (-1)))):Df w (some ⟨g,0,none⟩) (List.replicate n (-1)):=.inr ⟨g,0,rfl,h.lt,fun i a=>by
 rw [E8,h.cell i];simp at a;simp [List.getD,a]⟩
theorem WJ {l:List Int}:l=List.replicate l.length (-1)↔∀ i,i<l.length->l.getD i 0= -1:=by
 constructor
 · intro h i b;rw [h];simp [List.getD,b]
 · intro h;refine Wn (d:=0) I4 fun j a=>?_;rw [h j a];simp [List.getD,a]
theorem c37 (b:Bs) (q:Ba) (w:World) (hl:Bo b 1048576) (hn:1<=b.hd.length/\b.hd.length<=4) (Q:Dn w b q):
 Calls prog 37 #[.agg (bsV b q).toArray] w fun e w'=>Rb (iC b) e/\Bw w w':=by
 have X:=U0 Q;have L:=U0 hl;clear Q hl;go_enter func37,ntmps37
 go_upto_region 1 with fail
 have c:=U0 (G6 w (bsV b q) 48);have k:=U0 (o7 (w:=w) (o:=.cells (bsV b q).toArray 48));generalize w.alloc (.cells (bsV b q).toArray 48)=V at*;have I:=c.out.cell 3;have H:=c.out.cell 4;have F:=c.out.cell 7;have U:=c.out.cell 8;have R:=c.out.cell 9;have W:=c.out.cell 10;have r:=c.out.cell 11;have p:=c.out.cell 12;have n:=c.out.cell 13;have m:=c.out.cell 14;simp only [@gz Value] at I H F U R W r p n m;by_cases h1:b.ep=0;rotate_left
 · have a:Hid (¬ iC b):=fun h=>h1 h.2.1
   go_wp2_with fail
   go_region
   all_goals go_wp2
   all_goals go_ret
   all_goals exact ⟨G5 a.out,(k.out).drew⟩
 by_cases h2:b.ed=0;rotate_left
 · have a:Hid (¬ iC b):=fun h=>h2 h.2.2.1
   go_wp2_with fail
   go_region
   all_goals go_wp2
   all_goals go_ret
   all_goals exact ⟨G5 a.out,(k.out).drew⟩
 by_cases D:b.fs.length=0;rotate_left
 · have a:Hid (¬ iC b):=fun h=>D (by rw [h.2.2.2.1];rfl);have z:¬ ((b.fs.length:Int)=0):=O0
   go_wp2_with fail
   go_region
   all_goals go_wp2
   all_goals go_ret
   all_goals exact ⟨G5 a.out,(k.out).drew⟩
 rw [h1] at I;rw [h2] at H;rw [D] at F
 go_wp2_with fail
 refine (c73 b.s ⟨0,[],[]⟩ q.ta q.ra none none q.tc q.rc 0 0 V (IU L.out.st) VZ (X.out.st.below k.out) ⟨.inl rfl,.inl rfl⟩).mono ?_;rintro e w1 ⟨⟨E,rfl,d⟩,y⟩;have f:=U0 (c.out.below y c.out.lt);have j:=U0 (G7 k.out y);clear y I H F U R W r p n m c k;have r:=f.out.cell 11;have p:=f.out.cell 12;have n:=f.out.cell 13;have m:=f.out.cell 14;simp only [@gz Value] at r p n m
 cases E with
 | false=>
  have a:Hid (¬ iC b):=fun h=>by have:=d.2 h.2.2.2.2.1;cases this
  clear d
  go_wp2_with fail
  go_region
  all_goals go_wp2
  all_goals go_ret
  all_goals exact ⟨G5 a.out,(j.out).drew⟩
 | true=>
 have HT:=U0 (d.1 rfl);clear d;by_cases C:b.rt.length=0;rotate_left
 · have a:Hid (¬ iC b):=fun h=>C (by rw [h.2.2.2.2.2.1];rfl);have z:¬ ((b.rt.length:Int)=0):=O0
   go_wp2_with fail
   go_region
   all_goals go_wp2
   all_goals go_ret
   all_goals exact ⟨G5 a.out,(j.out).drew⟩
 by_cases B:b.rn.length=0;rotate_left
 · have a:Hid (¬ iC b):=fun h=>B (by rw [h.2.2.2.2.2.2.1];rfl);have z:¬ ((b.rn.length:Int)=0):=O0
   go_wp2_with fail
   go_region
   all_goals go_wp2
   all_goals go_ret
   all_goals exact ⟨G5 a.out,(j.out).drew⟩
 by_cases A:b.jb.length=0;rotate_left
 · have a:Hid (¬ iC b):=fun h=>A (by rw [h.2.2.2.2.2.2.2];rfl);have z:¬ ((b.jb.length:Int)=0):=O0
   go_upto_region 2 with fail
   rw [show ((b.jb.length:Int)==0)=false from n_.2 z]
   go_wp2_with fail
   go_region
   all_goals go_wp2
   all_goals go_ret
   all_goals exact ⟨G5 a.out,(j.out).drew⟩
 rw [C] at p;rw [B] at n;rw [A] at m;have HD:Hid ((∀ i,i<b.hd.length->b.hd.getD i 0= -1)->iC b):=fun h=>⟨h,h1,h2,Ya.1 D,HT.out,Ya.1 C,Ya.1 B,Ya.1 A⟩;have J:=U0 (f.out.below (Z4 _ _).drew f.out.lt);have HXL:=U0 f.out.lt;clear r
 go_wp2_with fail
 refine wp_region_held_drew (S:=fun u=>u.cell? (aW w 11)=some (vL q.ha b.hd.length q.hc)) J3 (J.out.cell 11) fun hH=>?_;refine Y0 0 ?_;refine Y0 1 ?_;refine Y0 2 ?_;refine Y0 3 ?_;refine Y0 4 ?_;refine Y0 5 ?_;refine Y0 6 ?_;refine rq 7 fun K l=>?_;go_simp;refine (c75 b.hd.length w1.drew hn).mono ?_;rintro e Z ⟨⟨g,rfl,P⟩,x⟩;have Y:=U0 ((j.out.drew).trans (x.mono j.out.size));have HI:=U0 (dQ P);have N:=U0 (J.out.below x J.out.lt);clear P x
 go_wp2_with fail
 refine J8 l (N.out.cell 11) fun hH=>?_;clear l K;refine rq 8 fun K l=>?_;go_simp;have O:(List.replicate b.hd.length (-1:Int)).length=b.hd.length:=Iz;have t:=c74 b.hd (List.replicate b.hd.length (-1)) q.ha (some (aA g 0)) q.hc b.hd.length Z L.out.hl (by rw [O];exact L.out.hl) (oh X.out.hd Y.out) HI.out;rw [O] at t;refine t.mono ?_;rintro e w3 ⟨⟨E,rfl,d⟩,v⟩;have B3:=U0 (G7 Y.out v);have HE:Hid (E=true↔iC b):=⟨fun h=>HD.out (WJ.1 (d.1 h)),fun h=>d.2 (WJ.2 h.1)⟩;have CY:=U0 (N.out.below v N.out.lt);clear d v t
 go_wp2_with fail
 refine J8 l (CY.out.cell 11) fun hH=>?_;clear l K;refine Y0 9 ?_;refine Y0 10 ?_;refine wdn ?_;go_wp2;go_ret;exact ⟨⟨_,rfl,HE.out⟩,B3.out⟩
theorem c20 (b:Bs) (q:Ba) (w:World) (hl:Bo b 1048576) (x:Dn w b q):
 Calls prog 20 #[.agg (bsV b q).toArray] w fun e w'=>Rb (iC b) e/\Bw w w':=by
 have W:=U0 x;have R:=U0 hl;have hhl:=hl.hl;have hrl:=hl.rl;have hnl:=hl.nl;have hjl:=hl.jl;obtain ⟨P,off,hc⟩:=vg x.hd;have U:=U0 hc;clear x hl hc;go_enter func20,ntmps20
 go_upto_region 1 with fail
 have a:=U0 (G6 w (bsV b q) 48);have d:=U0 (o7 (w:=w) (o:=.cells (bsV b q).toArray 48));generalize w.alloc (.cells (bsV b q).toArray 48)=V at*;have C:=a.out.cell 3;have B:=a.out.cell 4;have A:=a.out.cell 7;have I:=a.out.cell 8;have H:=a.out.cell 9;have J:=a.out.cell 10;have D:=a.out.cell 11;have r:=a.out.cell 12;have n:=a.out.cell 13;have m:=a.out.cell 14;simp only [@gz Value] at C B A I H J D r n m
 go_wp2_with fail
 go_loop [3] (fun i=>∃ k:Nat,k<=b.hd.length/\i=.int .i64 k/\Hid (∀ j,j<k->b.hd.getD j 0= -1)) (fun i=>b.hd.length - (intOf i).toNat)
 case atStart=>exact ⟨0,D5 _,rfl,fun j h=>absurd h (o9 _)⟩
 case round=>
  obtain ⟨k,K,rfl,hd⟩:=hrel;by_cases f:k<b.hd.length
  · obtain ⟨ha,L,u⟩:=Nc U.out f;rw [ha] at D;have g0:=(d.out.cell (p:=(aA P (off+k))) L).trans (u k f);by_cases g:b.hd.getD k 0= -1
    · have t:Hid (∀ j,j<k+1->b.hd.getD j 0= -1):=fun j hj=>by
       rcases o8 j k with h | h
       · exact hd.out j h
       · obtain rfl:j=k:=O0;exact g
      rw [g] at g0;clear u g hd;go_wp2
      go_round
      case rel=>exact ⟨k+1,O0,by go_num,t⟩
      case measure=>simp [intOf];omega
    have c:Hid (¬ iC b):=fun h=>g (h.1 k f);generalize b.hd.getD k 0=X at*;clear u hd;go_wp2;go_ret;exact ⟨G5 c.out,d.out⟩
  obtain rfl:k=b.hd.length:=O0;have S:=hd;clear hd f K;by_cases h1:b.ep=0;rotate_left
  · have c:Hid (¬ iC b):=fun h=>h1 h.2.1;go_wp2;go_ret;exact ⟨G5 c.out,d.out⟩
  by_cases h2:b.ed=0;rotate_left
  · have c:Hid (¬ iC b):=fun h=>h2 h.2.2.1;go_wp2;go_ret;exact ⟨G5 c.out,d.out⟩
  by_cases y:b.fs.length=0;rotate_left
  · have c:Hid (¬ iC b):=fun h=>y (by rw [h.2.2.2.1];rfl);have z:¬ ((b.fs.length:Int)=0):=O0;go_wp2;go_ret;exact ⟨G5 c.out,d.out⟩
  rw [h1] at C;rw [h2] at B;rw [y] at A
  go_wp2_with fail
  refine (c22 b.s ⟨0,[],[]⟩ q.ta q.ra none none q.tc q.rc 0 0 V (IU R.out.st) VZ (W.out.st.below d.out) ⟨.inl rfl,.inl rfl⟩).mono ?_;rintro e w1 ⟨⟨O,rfl,l⟩,v⟩;have E:=U0 (a.out.below v a.out.lt);have F:=U0 (G7 d.out v);clear v C B A I H J D r n m a d;have r:=E.out.cell 12;have n:=E.out.cell 13;have m:=E.out.cell 14;simp only [@gz Value] at r n m
  cases O with
  | false=>
   have c:Hid (¬ iC b):=fun h=>by have:=l.2 h.2.2.2.2.1;cases this
   clear l;go_wp2;go_ret;exact ⟨G5 c.out,F.out⟩
  | true=>
  have Q:=U0 (l.1 rfl);clear l;by_cases N:b.rt.length+b.rn.length+b.jb.length=0
  · have t:Hid (iC b):=⟨S.out,h1,h2,Ya.1 y,Q.out,Ya.1 O0,Ya.1 O0,Ya.1 O0⟩;have z:((b.rt.length:Int)+b.rn.length+b.jb.length==0)=true:=Zn.2 O0;go_wp2;go_ret;exact ⟨by first | exact C_ t.out | (rw [z];exact C_ t.out),F.out⟩
  have c:Hid (¬ iC b):=fun h=>N (by rw [h.2.2.2.2.2.1,h.2.2.2.2.2.2.1,h.2.2.2.2.2.2.2];rfl);have z:((b.rt.length:Int)+b.rn.length+b.jb.length==0)=false:=n_.2 O0;go_wp2;go_ret;exact ⟨by first | exact G5 c.out | (rw [z];exact G5 c.out),F.out⟩
def WZ (hd:List Int) (now:Int):Prop:=(1<=hd.length/\hd.length<=4)/\∀ i,i<hd.length-> -1<=hd.getD i 0/\hd.getD i 0<=now
theorem c34 (a:OA) (n:Nat) (hd:List Int) (now:Int) (w:World) (hl:hd.length<=1048576) (m:Df w a hd):
 Calls prog 34 #[.slice a hd.length n,.int .i64 now] w fun e w'=>Rb (WZ hd now) e/\w'=w:=by
 obtain ⟨bb,off,hc⟩:=vg m;have r:=U0 hc;clear m hc;go_enter func34,ntmps34
 go_wp2_with fail
 refine (c66 hd.length w).mono ?_;rintro e w1 ⟨rfl,hw⟩;obtain rfl:=hw.symm;by_cases h0:1<=hd.length/\hd.length<=4;rotate_left
 · have b:Hid (¬ WZ hd now):=fun h=>h0 h.1;rw [show decide (1<=(hd.length:Int)/\(hd.length:Int)<=4)=false from P9 O0];go_wp2;go_ret;exact ⟨G5 b.out,rfl⟩
 rw [show decide (1<=(hd.length:Int)/\(hd.length:Int)<=4)=true from y_ O0]
 go_wp2_with fail
 go_loop [13] (fun i=>∃ k:Nat,k<=hd.length/\i=.int .i64 k/\Hid (∀ j,j<k-> -1<=hd.getD j 0/\hd.getD j 0<=now)) (fun i=>hd.length - (intOf i).toNat)
 case atStart=>exact ⟨0,D5 _,rfl,fun j h=>absurd h (o9 _)⟩
 case round=>
  obtain ⟨k,hk,rfl,f⟩:=hrel;by_cases c:k<hd.length;rotate_left
  · obtain rfl:k=hd.length:=O0;have o:Hid (WZ hd now):=⟨h0,f.out⟩;go_wp2;go_ret;exact ⟨C_ o.out,rfl⟩
  obtain ⟨ha,hbw,l⟩:=Nc r.out c;subst ha;have g0:=l k c;have q:Hid (-1<=hd.getD k 0/\hd.getD k 0<=now->∀ j,j<k+1-> -1<=hd.getD j 0/\hd.getD j 0<=now):=fun d j hj=>by
   rcases o8 j k with h | h
   · exact f.out j h
   · obtain rfl:j=k:=O0;exact d
  have b:Hid (¬ (-1<=hd.getD k 0/\hd.getD k 0<=now)->¬ WZ hd now):=fun d h=>d (h.2 k c);generalize hd.getD k 0=X at*;clear l f;by_cases h1:X< -1
  · have g:=U0 (b.out O0);go_wp2;go_ret;exact ⟨G5 g.out,rfl⟩
  by_cases h2:now<X
  · have g:=U0 (b.out O0);go_wp2;go_ret;exact ⟨G5 g.out,rfl⟩
  have p:=U0 (q.out O0);go_wp2
  go_round
  case rel=>exact ⟨k+1,O0,by go_num,p⟩
  case measure=>simp [intOf];omega
theorem CG {P:Program} (w:World) (base:Nat) (t ty e:TypeId) (size:Nat) (ht:P.underlying t=some (.slice e)) (s:Inf P e size) (k:0<size) (v:Value) (n:Nat) (xs:List Value) (b:w.ownsRow base e size v n xs) (f:Value) (m:Nat) (a:List Value) (o:Src w f size m a) (h1:∀ u∈a,u.oneCell'=true) (r:n+m<=2000000) (y:base<=w.heap.size):
 ∃ v' w',(Builtin.append_ #[t,t] ty #[v,f]).run P w=.ok v' w'/\w'.ownsRow base e size v' (n+m) (xs++a)/\w.grownBy w' v.ownBlock/\(v'.ownBlock=v.ownBlock\/v'.ownBlock=some w.heap.size):=by
 obtain ⟨i,z,d,j,l,h,x⟩:=s;rcases o with ⟨⟨c,rfl⟩,rfl,rfl⟩ | ⟨C,c,rfl,hl,p⟩
 · refine ⟨v,w,?_,by simpa using b,⟨rfl,rfl,rfl,Y9 _,fun _ _ _=>rfl⟩,.inl rfl⟩;rcases b.2 with ⟨rfl,rfl⟩ | ⟨g,cap,cur,rfl,hbg,hg,q,hcm,hcs,htake⟩
   · simp [Builtin.append_,Xo ht,sizeOf,typeInfo,d,Builtin.lenOf,Builtin.firstCells]
   simp [Builtin.append_,Xo ht,sizeOf,typeInfo,d,Builtin.lenOf,Builtin.firstCells,loadCells,q,storeCells]
 obtain ⟨v',w',hr,h2,B,h4,A⟩:=run_append_own_at (P:=P) w base t ty e i z size i.bytes ht d j l rfl h k v n xs b C m c a hl p h1 (by simp only [maxLen];omega) (Q7 (Nat.mul_le_mul r x) O6) y;exact ⟨v',w',hr,h2,B,A⟩
section
variable {P:Program} {ops:Array Oper} {Q:Exit->Act->World->Prop}
theorem gK {o:Oper} {a:Act} {w:World} {K:Act->World->Prop} {E:Prop} (l:o.guard=none) (s x:Operand) (t:TypeId) (ho:o.op=.call { callee:=.builtin .append,args:=#[s,x],argTypes:=#[t,t] })
 (base:Nat) (e:TypeId) (size:Nat) (ht:P.underlying t=some (.slice e)) (k:Inf P e size) (d:0<size) (v:Value) (n:Nat) (xs:List Value) (g:a.eval s=v) (i:w.ownsRow base e size v n xs) (c:Value) (m:Nat) (b:List Value) (hx:a.eval x=c) (f:Src w c size m b) (h1:∀ u∈b,u.oneCell'=true) (j:n+m<=2000000) (p:base<=w.heap.size)
 (h:∀ v' w',w'.ownsRow base e size v' (n+m) (xs++b)->w.grownBy w' v.ownBlock->(v'.ownBlock=v.ownBlock\/v'.ownBlock=some w.heap.size)->K (a.put o.dst v') w'):if Region.wanted o (yielded ops a.tmps)=true then Oper.wp P o a w K Q else E:=by
 obtain ⟨v',w',hr,h2,r,q⟩:=CG w base t o.type e size ht k d v n xs i c m b f h1 j p;refine UR l (v:=v') (w':=w') ?_ (h v' w' h2 r q);unfold execOp;simp only [ho,resolve,invoke,builtin,Qk,Uo,Un,Zx,Cm,Qu,g,hx,hr]
theorem JK {d:List Oper} {o:Oper} {a:Act} {w:World} (p:o.guard=none) (s x:Operand) (t:TypeId) (ho:o.op=.call { callee:=.builtin .append,args:=#[s,x],argTypes:=#[t,t] })
 (base:Nat) (e:TypeId) (size:Nat) (ht:P.underlying t=some (.slice e)) (l:Inf P e size) (f:0<size) (v:Value) (n:Nat) (xs:List Value) (i:a.eval s=v) (j:w.ownsRow base e size v n xs) (c:Value) (m:Nat) (b:List Value) (hx:a.eval x=c) (g:Src w c size m b) (h1:∀ u∈b,u.oneCell'=true) (k:n+m<=2000000) (q:base<=w.heap.size)
 (h:∀ v' w',w'.ownsRow base e size v' (n+m) (xs++b)->w.grownBy w' v.ownBlock->(v'.ownBlock=v.ownBlock\/v'.ownBlock=some w.heap.size)->wpList P ops Q d (a.put o.dst v') w'):wpList P ops Q (o::d) a w:=by
 obtain ⟨v',w',hr,h2,y,r⟩:=CG w base t o.type e size ht l f v n xs j c m b g h1 k q;refine Z9 p (v:=v') (w':=w') ?_ (h v' w' h2 y r);unfold execOp;simp only [ho,resolve,invoke,builtin,Qk,Uo,Un,Zx,Cm,Qu,i,hx,hr]
end
theorem nM {w u:World} {a:OA} {c:Nat} {ss:LB} (h:y8 w a ss) (ha:ss=[]->a=none\/∃ p,a=some p) (f:Bw w u):Src u (.slice a ss.length c) 1 ss.length (ss.map .string):=by
 rcases h with rfl | ⟨b,off,rfl,hl,h⟩
 · rcases ha rfl with rfl | ⟨p,rfl⟩
   · exact .inl ⟨⟨c,rfl⟩,rfl,rfl⟩
   exact .inr ⟨p,c,rfl,rfl,fun j u e=>by simp at e⟩
 refine .inr ⟨_,c,rfl,I4,fun j v e=>?_⟩;obtain ⟨d,rfl⟩:=Nj.1 e;simp at d;rw [Vt,f.cell (by exact hl),h j d];simp [List.getD,d]
theorem IV {w u:World} {a:OA} {c:Nat} {ss:LB} (h:y8 w a ss) (b:Bw w u):Src u (.slice a ss.length c) 1 ss.length (ss.map .string):=nM h (fun _=>by cases a;exact .inl rfl;exact .inr ⟨_,rfl⟩) b
theorem nJ {w:World} {base:Nat} {v:Value} {ss:LB} (h:w.ownsRow base 9 1 v ss.length (ss.map .string)):∃ a c,v=.slice a ss.length c/\y8 w a ss:=by
 obtain ⟨a,c,rfl⟩:=Za h;refine ⟨a,c,rfl,?_⟩;by_cases h0:ss=[]
 · exact .inl h0
 have d:=Gt.2 h0;obtain ⟨g,c',e,f,_⟩:=Hz h (j:=0) (x:=vS (ss[0])) (by simp [d]);injection e with e;subst e;refine .inr ⟨g,0,rfl,f,fun i b=>?_⟩;obtain ⟨g',c'',e,_,h2⟩:=Hz h (j:=i) (x:=vS (ss[i])) (by simp [b]);injection e with e;injection e with e;injection e with e;subst e;rw [E8,h2];simp [List.getD,b]
theorem c19 (sf lo:LB) (sa la:OA) (sc lc:Nat) (w:World) (hl:sf.length+lo.length<=1048576) (p:y8 w sa sf) (q:y8 w la lo):
 Calls prog 19 #[.agg #[.slice sa sf.length sc,.slice la lo.length lc]] w fun e w'=>(∃ a c,e=.returned (.slice a (sf++lo).length c)/\y8 w' a (sf++lo))/\Bw w w':=by
 have A:=U0 p;have z:=U0 q;clear p q;go_enter func19,ntmps19
 go_upto_region 1 with fail
 have t:=U0 (G6 w [vL sa sf.length sc,vL la lo.length lc] 38);have n:=U0 (o7 (w:=w) (o:=.cells #[vL sa sf.length sc,vL la lo.length lc] 38));generalize w.alloc (.cells #[vL sa sf.length sc,vL la lo.length lc] 38)=V at*;have hd:Bw V V.drew:=(Z4 _ _).drew;have g:Hid (∀ u,Bw V u->u.cell? (aW w 0)=some (vL sa sf.length sc)/\u.cell? (aW w 1)=some (vL la lo.length lc)):=fun u v=>have h:=t.out.below v t.out.lt;⟨h.cell 0,h.cell 1⟩
 refine wp_region_held_drew (S:=fun u=>u.cell? (aW w 0)=some (vL sa sf.length sc)/\u.cell? (aW w 1)=some (vL la lo.length lc)) J3 (g.out _ hd) fun hH=>?_;refine Y0 1 ?_;refine tq 2 hH ?_;refine Y0 4 ?_;refine Y0 5 ?_;refine rq 0 fun K b=>?_;go_simp;have j:=U0 (row0 (base:=V.heap.size) V.drew 9 1 rfl x9);have d:Bw V (V.drew.alloc (.cells #[] 9)):=hd.alloc x9 _;refine J8 b (g.out _ d) fun hH=>?_;clear b K;refine rq 3 fun K b=>?_;refine gK rfl _ _ 22 rfl V.heap.size 9 1 underlying22 JH O6 _ 0 [] rfl j.out _ sf.length (sf.map .string) rfl (IV A.out (G7 n.out d)) (gm _) O0 d.size ?_;intro v1 y1 m g1 e1;rw [E8,M_] at m;have f:=qi d g1 d.size (fun k e=>P6 j.out e);have i:=U0 m;clear m g1 e1 j d;refine J8 b (g.out _ f) fun hH=>?_;clear b K;refine rq 6 fun K b=>?_;refine gK rfl _ _ 22 rfl V.heap.size 9 1 underlying22 JH O6 _ sf.length (sf.map .string) rfl i.out _ lo.length (lo.map .string) rfl (IV z.out (G7 n.out f)) (gm _) O0 f.size ?_;intro v2 y2 l g2 x;have s:=qi f g2 f.size (fun k e=>P6 i.out e);rw [<- Fg,<- N9] at l;obtain ⟨a,c,rfl,r⟩:=nJ l;have y:=U0 r;have B:=U0 (G7 n.out s);clear l g2 x i r;refine J8 b (g.out _ s) fun hH=>?_;clear b K;refine Y0 7 ?_;refine wdn ?_;go_wp2;go_ret;exact ⟨⟨_,_,by rw [N9];rfl,y.out⟩,B.out⟩
theorem a1s (n:Nat) (w:World) (hn:n<=1048576):
 Calls prog 122 #[.slice none 0 0,.int .i64 n] w fun e w'=>(∃ v,e=.returned v/\w'.ownsRow w.heap.size 9 1 v 0 [])/\Bw w w':=by
 by_cases h0:n=0
 · subst h0;go_enter func122,ntmps122;go_wp2;go_ret;exact ⟨⟨_,rfl,ng _ _ _ _⟩,Z4 _ _⟩
 obtain ⟨f,d,c,b,a⟩:=info_parts info9;have hr:∀ u:World,_:=fun u:World=>Lib.run_append_nil_zeros (P:=prog) u 22 3 22 9 f vE .i64 .i64 underlying22 underlying3 d c n O0 (by rw [b];decide) O0 (by rw [a];omega);have h1:(0:Int)<n:=O0;clear d c b a;go_enter func122,ntmps122
 go_wp2_with (refine Lib.wpList_append_run _ rfl _ _ 22 3 rfl _ _ rfl rfl _ _ (hr _) ?_)
 go_ret;refine ⟨⟨_,rfl,rfl,.inr ⟨w.heap.size,grownCap w n 0 9,_,rfl,Nat.le_refl _,heap_alloc_new w _,Nat.zero_le _,grownCap_le_maxLen w n 0 9 (by unfold maxLen;omega),?_,I4⟩⟩,o7.drew⟩;have:=grownCap_ge w n 0 9;rw [Array.size_append,size_zeroCells,size_zeroCells];show n*1+(grownCap w n 0 9 - n)*1=_;omega
theorem c72 (sf lo:LB) (sa la:OA) (sc lc B:Nat) (w:World) (hl:sf.length+lo.length<=1048576) (hB:Cl w B 22 [.slice sa sf.length sc,.slice la lo.length lc]) (t:y8 w sa sf) (u:y8 w la lo):
 Calls prog 72 #[.slice (some ⟨B,0,none⟩) 2 2] w fun e w'=>(∃ a c,e=.returned (.slice a (sf++lo).length c)/\y8 w' a (sf++lo))/\Bw w w':=by
 have E:=U0 t;have D:=U0 u;have z:=U0 hB;have o:=hB.cell 0;have n:=hB.cell 1;simp only [@gz Value] at o n;clear t u hB;go_enter func72,ntmps72
 go_wp2_with fail
 go_loop [3,11] (fun s i=>(i=.int .i64 0/\s=.int .i64 0)\/(i=.int .i64 1/\s=.int .i64 sf.length)\/(i=.int .i64 2/\s=.int .i64 ((sf.length:Int)+lo.length))) (fun _ i=>2 - (intOf i).toNat)
 case atStart=>exact .inl ⟨rfl,rfl⟩
 case round=>
  rcases hrel with ⟨rfl,rfl⟩ | ⟨rfl,rfl⟩ | ⟨rfl,rfl⟩
  · go_wp2
    go_round
    case rel=>exact .inr (.inl ⟨rfl,rfl⟩)
    case measure=>simp [intOf]
  · go_wp2
    go_round
    case rel=>exact .inr (.inr ⟨rfl,by go_num⟩)
    case measure=>simp [intOf]
  go_wp2_with fail
  have j:=a1s (sf.length+lo.length) w hl;rw [Int.natCast_add] at j;refine j.mono ?_;rintro e w1 ⟨⟨v,rfl,hv⟩,A⟩;clear j
  go_wp2_with fail
  go_loopw [6,27] (fun s i wr=>((i=.int .i64 0/\wr.ownsRow w.heap.size 9 1 s ([]:List ByteArray).length (([]:List ByteArray).map .string))\/(i=.int .i64 1/\wr.ownsRow w.heap.size 9 1 s sf.length (sf.map .string))\/(i=.int .i64 2/\wr.ownsRow w.heap.size 9 1 s (sf++lo).length ((sf++lo).map .string)))/\Below w.heap.size w wr) (fun _ i _=>2 - (intOf i).toNat)
  case atStart=>exact ⟨.inl ⟨rfl,hv⟩,A⟩
  case round=>
   obtain ⟨hrel,b⟩:=hrel;rcases hrel with ⟨rfl,hr⟩ | ⟨rfl,hr⟩ | ⟨rfl,hr⟩
   · replace o:=(b.cell (p:=(aA B 0)) z.out.lt).trans o
     have g:=U0 hr;have q:=U0 (IV (c:=sc) E.out b);clear hr
     go_wp2_with (refine JK rfl _ _ 22 rfl w.heap.size 9 1 underlying22 JH O6 _ ([]:LB).length (([]:LB).map .string) rfl g.out _ sf.length (sf.map .string) rfl q.out (gm _) (by first | omega | (simp;omega)) b.size ?_;intro v' y d f l)
     have m:=U0 (qi b f b.size (fun k e=>P6 g.out e));have r:=U0 d;clear d f l;go_wp2;go_roundw
     case rel=>exact ⟨.inr (.inl ⟨rfl,by have h:=r.out;simpa using h⟩),m.out⟩
     case measure=>simp [intOf]
   · replace n:=(b.cell (p:=(aA B 1)) z.out.lt).trans n
     have g:=U0 hr;have q:=U0 (IV (c:=lc) D.out b);clear hr
     go_wp2_with (refine JK rfl _ _ 22 rfl w.heap.size 9 1 underlying22 JH O6 _ (sf).length ((sf).map .string) rfl g.out _ lo.length (lo.map .string) rfl q.out (gm _) (by first | omega | (simp;omega)) b.size ?_;intro v' y d f l)
     have m:=U0 (qi b f b.size (fun k e=>P6 g.out e));have r:=U0 d;clear d f l;go_wp2;go_roundw
     case rel=>exact ⟨.inr (.inr ⟨rfl,by have h:=r.out;rw [<- Fg,<- N9] at h;exact h⟩),m.out⟩
     case measure=>simp [intOf]
   obtain ⟨a,c,rfl,x⟩:=nJ hr;have C:=U0 x;clear hr x;go_wp2;go_ret;exact ⟨⟨_,_,rfl,C.out⟩,b⟩
theorem c36 (sf lo:LB) (sa la:OA) (sc lc:Nat) (w:World) (hl:sf.length+lo.length<=1048576) (d:y8 w sa sf) (f:y8 w la lo):
 Calls prog 36 #[.agg #[.slice sa sf.length sc,.slice la lo.length lc]] w fun e w'=>(∃ a c,e=.returned (.slice a (sf++lo).length c)/\y8 w' a (sf++lo))/\Bw w w':=by
 have b:Bw w ((w.alloc (.cells #[vL sa sf.length sc,vL la lo.length lc] 38)).alloc (.cells #[vL sa sf.length sc,vL la lo.length lc] 22)):=o7.alloc I4 _;have hc:=c72 sf lo sa la sc lc (w.heap.size+1) _ hl (by have h:=G6 (w.alloc (.cells #[vL sa sf.length sc,vL la lo.length lc] 38)) [vL sa sf.length sc,vL la lo.length lc] 22;simpa using h) (Z5 d b) (Z5 f b);have j:=U0 b;clear d f b;go_enter func36,ntmps36
 go_wp2_with fail
 refine hc.mono ?_;rintro e w1 ⟨⟨a,c,rfl,i⟩,g⟩;have k:=U0 i;have l:=U0 (G7 j.out g);clear hc i g j;go_wp2;go_ret;exact ⟨⟨_,_,by rw [N9];rfl,k.out⟩,l.out⟩
