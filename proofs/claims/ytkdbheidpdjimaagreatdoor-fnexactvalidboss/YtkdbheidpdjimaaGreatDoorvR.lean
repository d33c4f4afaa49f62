import Derived.Test.YtkdbheidpdjimaaGreatDoorvQ
set_option linter.unusedVariables false
set_option maxHeartbeats 8000000
set_option maxRecDepth 100000
namespace Go.Proofs.YtkdbheidpdjimaaGreatDoor
open Proofs.Tryz Go.RowKit
theorem c22 (x y:St) (ta ra l rb:OA) (tc rc m rd:Nat) (w:World) (hx:x.ts.length<=1048576/\x.rs.length<=1048576/\∀ i,(x.rs.getD i g_).gs.length<=1048576) (hy:y.ts.length<=1048576/\y.rs.length<=1048576/\∀ i,(y.rs.getD i g_).gs.length<=1048576) (hat:Zg w ta ra x) (hat':Zg w l rb y):
 Calls prog 22 #[.agg #[.int .i64 x.wd,.slice ta x.ts.length tc,.slice ra x.rs.length rc],.agg #[.int .i64 y.wd,.slice l y.ts.length m,.slice rb y.rs.length rd]] w fun e w'=>Rb (x=y) e/\Bw w w':=by
 obtain ⟨x1,x2,x3⟩:=hx;obtain ⟨y1,y2,y3⟩:=hy;have X3:=U0 x3;have Y3:=U0 y3;have HA:=U0 hat;have HA':=U0 hat';clear x3 y3 hat hat';go_enter func22,ntmps22
 go_upto_region 1 with fail
 have z:=U0 (Oa (G6 w [vI x.wd,vL ta x.ts.length tc,vL ra x.rs.length rc] 44) (.cells #[vI y.wd,vL l y.ts.length m,vL rb y.rs.length rd] 44));have v:Hid (Cl ((w.alloc (.cells #[vI x.wd,vL ta x.ts.length tc,vL ra x.rs.length rc] 44)).alloc (.cells #[vI y.wd,vL l y.ts.length m,vL rb y.rs.length rd] 44)) (w.heap.size+1) 44 [vI y.wd,vL l y.ts.length m,vL rb y.rs.length rd]):=by show Cl _ _ _ _;have h:=G6 (w.alloc (.cells #[vI x.wd,vL ta x.ts.length tc,vL ra x.rs.length rc] 44)) [vI y.wd,vL l y.ts.length m,vL rb y.rs.length rd] 44;simpa using h
 have D:Hid (Bw w ((w.alloc (.cells #[vI x.wd,vL ta x.ts.length tc,vL ra x.rs.length rc] 44)).alloc (.cells #[vI y.wd,vL l y.ts.length m,vL rb y.rs.length rd] 44))):=o7.alloc I4 _;generalize (w.alloc (.cells #[vI x.wd,vL ta x.ts.length tc,vL ra x.rs.length rc] 44)).alloc (.cells #[vI y.wd,vL l y.ts.length m,vL rb y.rs.length rd] 44)=V at*;have O:=z.out.cell 0;have B:=v.out.cell 0;have N:=z.out.cell 1;have t:=v.out.cell 1;have a2:=z.out.cell 2;have n:=v.out.cell 2;simp only [@gz Value] at O B N t a2 n;by_cases hw:x.wd=y.wd;rotate_left
 · have g:Hid (¬ x=y):=fun h=>hw (by rw [h]);go_wp2;go_ret;exact ⟨G5 g.out,D.out⟩
 by_cases d:x.ts.length=y.ts.length;rotate_left
 · have g:Hid (¬ x=y):=fun h=>d (by rw [h]);have hn1:¬ (x.ts.length:Int)=y.ts.length:=O0;go_wp2;go_ret;exact ⟨G5 g.out,D.out⟩
 by_cases hm:x.rs.length=y.rs.length;rotate_left
 · have g:Hid (¬ x=y):=fun h=>hm (by rw [h]);have hn1:¬ (x.rs.length:Int)=y.rs.length:=O0;rw [<- d] at t;go_wp2;go_ret;exact ⟨G5 g.out,D.out⟩
 have HW:=U0 hw;have P:=U0 d;have Q:=U0 hm;rw [<- hw] at B;rw [<- d] at t;rw [<- hm] at n;obtain ⟨b,off,hc⟩:=Q_ HA.out.1;obtain ⟨b',off',r⟩:=Q_ HA'.out.1;have W:=U0 hc;have U:=U0 r;have u:=U0 z.out.lt;have C:=U0 v.out.lt;clear hc r z v d hm hw
 go_wp2_with fail
 go_loopw [5] (fun i wr=>∃ (k:Nat),k<=x.ts.length/\i=.int .i64 k/\Hid (∀ j,j<k->x.ts.getD j ByteArray.empty=y.ts.getD j ByteArray.empty)/\Below V.heap.size V wr) (fun i _=>x.ts.length - (intOf i).toNat)
 case atStart=>exact ⟨0,D5 _,rfl,fun j h=>absurd h (o9 _),Z4 _ _⟩
 case round=>
  obtain ⟨k,hk2,rfl,hd,a⟩:=hrel
  replace O:=(a.cell (p:=(aW w 0)) u.out).trans O
  replace N:=(a.cell (p:=(aW w 1)) u.out).trans N
  replace a2:=(a.cell (p:=(aW w 2)) u.out).trans a2
  replace B:=(a.cell (p:=(aA (w.heap.size+1) 0)) C.out).trans B
  replace t:=(a.cell (p:=(aA (w.heap.size+1) 1)) C.out).trans t
  replace n:=(a.cell (p:=(aA (w.heap.size+1) 2)) C.out).trans n
  have A:=U0 (G7 D.out a);by_cases f:k<x.ts.length
  · obtain ⟨ha,H,q⟩:=Nc W.out f;rcases U.out with E | ⟨K,F,o⟩
    · have d:=P.out;rw [E] at d;rw [d] at f;exact absurd f (o9 _)
    subst ha;subst K;have g0:=(A.out.cell (p:=(aA b (off+k))) H).trans (q k f);have g0':=(A.out.cell (p:=(aA b' (off'+k))) F).trans (o k (by have:=P.out;omega));clear q o;by_cases c:x.ts.getD k ByteArray.empty=y.ts.getD k ByteArray.empty
    · have S:Hid (∀ j,j<k+1->x.ts.getD j ByteArray.empty=y.ts.getD j ByteArray.empty):=fun j hj=>by
       rcases o8 j k with h | h
       · exact hd.out j h
       · obtain rfl:j=k:=O0;exact c
      rw [<- c] at g0';generalize x.ts.getD k ByteArray.empty=X at*;clear c hd
      go_wp2_with fail
      go_region
      all_goals go_wp2
      all_goals go_roundw
      all_goals first
       | exact ⟨k+1,O0,by go_num,S,a.drew⟩
       | (simp [intOf];omega)
    have g:Hid (¬ x=y):=fun h=>c (by rw [h]);generalize x.ts.getD k ByteArray.empty=X at*;generalize y.ts.getD k ByteArray.empty=Y at*;have q':=n_.2 (Zb c)
    go_wp2_with fail
    go_region
    all_goals go_wp2
    all_goals go_ret
    all_goals exact ⟨G5 g.out,A.out.drew⟩
  obtain rfl:k=x.ts.length:=O0;have HX:=U0 (Wn P.out hd.out);obtain ⟨b,off,hc⟩:=Af HA.out.2;obtain ⟨b',off',r⟩:=Af HA'.out.2;have W:=U0 hc;have U:=U0 r;have Z:=U0 a;clear hc r hd a
  go_wp2_with fail
  go_loopw [6] (fun i wr'=>∃ (k:Nat),k<=x.rs.length/\i=.int .i64 k/\Hid (∀ j,j<k->x.rs.getD j g_=y.rs.getD j g_)/\Below wr.heap.size wr wr') (fun i _=>x.rs.length - (intOf i).toNat)
  case atStart=>exact ⟨0,D5 _,rfl,fun j h=>absurd h (o9 _),Z4 _ _⟩
  case round=>
   obtain ⟨k,hk2,rfl,hd,a⟩:=hrel
   replace a2:=(a.cell (p:=(aW w 2)) (by have:=Z.out.size;have:=u.out;exact m_ u.out Z.out.size)).trans a2
   replace n:=(a.cell (p:=(aA (w.heap.size+1) 2)) (by exact m_ C.out Z.out.size)).trans n
   have s:=U0 (G7 A.out a);by_cases f:k<x.rs.length;rotate_left
   · obtain rfl:k=x.rs.length:=O0;have HR:Hid (x=y):=by
      have h1:=HW.out;have h2:=HX.out;have h3:=Wn Q.out hd.out;obtain ⟨_,_,_⟩:=x;obtain ⟨_,_,_⟩:=y;dsimp only at h1 h2 h3;subst h1 h2 h3;rfl
     go_wp2;go_ret;exact ⟨C_ HR.out,s.out⟩
   obtain ⟨ha,H,q⟩:=Nc W.out f;rcases U.out with E | ⟨K,F,o⟩
   · have d:=Q.out;rw [E] at d;rw [d] at f;exact absurd f (o9 _)
   subst ha;subst K;obtain ⟨ai,ci,g0,g1,g2,g3⟩:=(q k f).below H s.out;obtain ⟨bi,di,p0,p1,p2,p3⟩:=(o k (by have:=Q.out;omega)).below F s.out;have G3:=U0 g3;have P3:=U0 p3;have hx3:=X3.out k;have hy3:=Y3.out k;clear q o g3 p3;by_cases c:x.rs.getD k g_=y.rs.getD k g_
   · have S:Hid (∀ j,j<k+1->x.rs.getD j g_=y.rs.getD j g_):=fun j hj=>by
      rcases o8 j k with h | h
      · exact hd.out j h
      · obtain rfl:j=k:=O0;exact c
     have R:=U0 c;generalize x.rs.getD k g_=X at*;generalize y.rs.getD k g_=Y at*;clear c hd
     go_wp2_with fail
     go_region_with (go_at_call 56;refine (c56 X Y ai bi ci di _ hx3 hy3 (O8 G3.out (Z4 _ _).drew) (O8 P3.out (Z4 _ _).drew)).mono ?_;rintro e w1 ⟨⟨L,rfl,I⟩,J⟩;obtain rfl:L=true:=I.2 R.out)
     all_goals go_wp2
     all_goals go_roundw
     all_goals first
      | exact ⟨k+1,O0,by go_num,S,(a.drew).trans (J.mono a.size)⟩
      | (simp [intOf];omega)
   have g:Hid (¬ x=y):=fun h=>c (by rw [h]);have R:=U0 c;generalize x.rs.getD k g_=X at*;generalize y.rs.getD k g_=Y at*;clear c hd
   go_wp2_with fail
   go_region_with (go_at_call 56;refine (c56 X Y ai bi ci di _ hx3 hy3 (O8 G3.out (Z4 _ _).drew) (O8 P3.out (Z4 _ _).drew)).mono ?_;rintro e w1 ⟨⟨L,rfl,I⟩,J⟩;obtain rfl:L=false:=Uh.2 (fun h=>R.out (I.1 h)))
   all_goals go_wp2
   all_goals go_ret
   all_goals exact ⟨G5 g.out,(s.out.drew).trans (J.mono s.out.size)⟩
