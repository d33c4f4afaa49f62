import Derived.Test.YtchjpjmcnhjbcaaGreatDooreEO
import Derived.Test.YtchjpjmcnhjbcaaGreatDoorpA
import Derived.Test.YtchjpjmcnhjbcaaGreatDoorMF
import Derived.Test.YtchjpjmcnhjbcaaGreatDooryK
set_option linter.unusedVariables false
set_option maxHeartbeats 8000000
set_option maxRecDepth 100000
namespace Go.Proofs.YtchjpjmcnhjbcaaGreatDoor
open Proofs.Tryz Go.RowKit Go.Maps
def kn (K:Int) (rs:List R3) (i:Nat):Int:=K+2*(i:Int)+3*(Px (rs.take i):Int)
open Go.RowKit
theorem c60 (x y:St) (ta ra l rb:OA) (tc rc m rd:Nat) (w:World) (hx:x.ts.length<=1048576/\x.rs.length<=1048576/\∀ i,(x.rs.getD i f_).gs.length<=1048576) (hy:y.ts.length<=1048576/\y.rs.length<=1048576/\∀ i,(y.rs.getD i f_).gs.length<=1048576) (hat:Ig w ta ra x) (hat':Ig w l rb y):
 Calls prog 60 #[.agg #[.int .i64 x.wd,.slice ta x.ts.length tc,.slice ra x.rs.length rc],.agg #[.int .i64 y.wd,.slice l y.ts.length m,.slice rb y.rs.length rd]] w fun e w'=>Rb (x=y) e/\Bw w w':=by
 obtain ⟨x1,x2,x3⟩:=hx;obtain ⟨y1,y2,y3⟩:=hy;have X3:=U0 x3;have Y3:=U0 y3;have HA:=U0 hat;have HA':=U0 hat';clear x3 y3 hat hat';go_enter func60,ntmps60
 go_upto_region 1 with fail
 have z:=U0 (G9 (Y4 w [vI x.wd,vL ta x.ts.length tc,vL ra x.rs.length rc] 43) (.cells #[vI y.wd,vL l y.ts.length m,vL rb y.rs.length rd] 43));have v:Hid (Cl ((w.alloc (.cells #[vI x.wd,vL ta x.ts.length tc,vL ra x.rs.length rc] 43)).alloc (.cells #[vI y.wd,vL l y.ts.length m,vL rb y.rs.length rd] 43)) (w.heap.size+1) 43 [vI y.wd,vL l y.ts.length m,vL rb y.rs.length rd]):=by show Cl _ _ _ _;have h:=Y4 (w.alloc (.cells #[vI x.wd,vL ta x.ts.length tc,vL ra x.rs.length rc] 43)) [vI y.wd,vL l y.ts.length m,vL rb y.rs.length rd] 43;simpa using h
 have D:Hid (Bw w ((w.alloc (.cells #[vI x.wd,vL ta x.ts.length tc,vL ra x.rs.length rc] 43)).alloc (.cells #[vI y.wd,vL l y.ts.length m,vL rb y.rs.length rd] 43))):=P6.alloc X4 _;generalize (w.alloc (.cells #[vI x.wd,vL ta x.ts.length tc,vL ra x.rs.length rc] 43)).alloc (.cells #[vI y.wd,vL l y.ts.length m,vL rb y.rs.length rd] 43)=V at*;have O:=z.out.cell 0;have B:=v.out.cell 0;have N:=z.out.cell 1;have t:=v.out.cell 1;have a2:=z.out.cell 2;have n:=v.out.cell 2;simp only [@gz Value] at O B N t a2 n;by_cases hw:x.wd=y.wd;rotate_left
 · have g:Hid (¬ x=y):=fun h=>hw (by rw [h]);go_wp2;go_ret;exact ⟨G5 g.out,D.out⟩
 by_cases d:x.ts.length=y.ts.length;rotate_left
 · have g:Hid (¬ x=y):=fun h=>d (by rw [h]);have hn1:¬ (x.ts.length:Int)=y.ts.length:=O0;go_wp2;go_ret;exact ⟨G5 g.out,D.out⟩
 by_cases hm:x.rs.length=y.rs.length;rotate_left
 · have g:Hid (¬ x=y):=fun h=>hm (by rw [h]);have hn1:¬ (x.rs.length:Int)=y.rs.length:=O0;rw [<- d] at t;go_wp2;go_ret;exact ⟨G5 g.out,D.out⟩
 have HW:=U0 hw;have P:=U0 d;have Q:=U0 hm;rw [<- hw] at B;rw [<- d] at t;rw [<- hm] at n;obtain ⟨b,off,hc⟩:=K_ HA.out.1;obtain ⟨b',off',r⟩:=K_ HA'.out.1;have W:=U0 hc;have U:=U0 r;have u:=U0 z.out.lt;have C:=U0 v.out.lt;clear hc r z v d hm hw
 go_wp2_with fail
 go_loopw [5] (fun i wr=>∃ (k:Nat),k<=x.ts.length/\i=.int .i64 k/\Hid (∀ j,j<k->x.ts.getD j ByteArray.empty=y.ts.getD j ByteArray.empty)/\Below V.heap.size V wr) (fun i _=>x.ts.length - (RowKit.intOf i).toNat)
 case atStart=>exact ⟨0,J4 _,rfl,fun j h=>absurd h (J8 _),Z4 _ _⟩
 case round=>
  obtain ⟨k,hk2,rfl,hd,a⟩:=hrel
  replace O:=(a.cell (p:=(aW w 0)) u.out).trans O
  replace N:=(a.cell (p:=(aW w 1)) u.out).trans N
  replace a2:=(a.cell (p:=(aW w 2)) u.out).trans a2
  replace B:=(a.cell (p:=(aA (w.heap.size+1) 0)) C.out).trans B
  replace t:=(a.cell (p:=(aA (w.heap.size+1) 1)) C.out).trans t
  replace n:=(a.cell (p:=(aA (w.heap.size+1) 2)) C.out).trans n
  have A:=U0 (X5 D.out a);by_cases f:k<x.ts.length
  · obtain ⟨ha,H,q⟩:=Cc W.out f;rcases U.out with E | ⟨K,F,o⟩
    · have d:=P.out;rw [E] at d;rw [d] at f;exact absurd f (J8 _)
    subst ha;subst K;have g0:=(A.out.cell (p:=(aA b (off+k))) H).trans (q k f);have g0':=(A.out.cell (p:=(aA b' (off'+k))) F).trans (o k (by have:=P.out;omega));clear q o;by_cases c:x.ts.getD k ByteArray.empty=y.ts.getD k ByteArray.empty
    · have S:Hid (∀ j,j<k+1->x.ts.getD j ByteArray.empty=y.ts.getD j ByteArray.empty):=fun j hj=>by
       rcases Q7 j k with h | h
       · exact hd.out j h
       · obtain rfl:j=k:=O0;exact c
      rw [<- c] at g0';generalize x.ts.getD k ByteArray.empty=X at*;clear c hd
      go_wp2_with fail
      go_region
      all_goals go_wp2
      all_goals go_roundw
      all_goals first
       | exact ⟨k+1,O0,by go_num,S,a.drew⟩
       | (simp [RowKit.intOf];omega)
    have g:Hid (¬ x=y):=fun h=>c (by rw [h]);generalize x.ts.getD k ByteArray.empty=X at*;generalize y.ts.getD k ByteArray.empty=Y at*;have q':=p_.2 (Ub c)
    go_wp2_with fail
    go_region
    all_goals go_wp2
    all_goals go_ret
    all_goals exact ⟨G5 g.out,A.out.drew⟩
  obtain rfl:k=x.ts.length:=O0;have HX:=U0 (Wn P.out hd.out);obtain ⟨b,off,hc⟩:=Ie HA.out.2;obtain ⟨b',off',r⟩:=Ie HA'.out.2;have W:=U0 hc;have U:=U0 r;have Z:=U0 a;clear hc r hd a
  go_wp2_with fail
  go_loopw [6] (fun i wr'=>∃ (k:Nat),k<=x.rs.length/\i=.int .i64 k/\Hid (∀ j,j<k->x.rs.getD j f_=y.rs.getD j f_)/\Below wr.heap.size wr wr') (fun i _=>x.rs.length - (RowKit.intOf i).toNat)
  case atStart=>exact ⟨0,J4 _,rfl,fun j h=>absurd h (J8 _),Z4 _ _⟩
  case round=>
   obtain ⟨k,hk2,rfl,hd,a⟩:=hrel
   replace a2:=(a.cell (p:=(aW w 2)) (by have:=Z.out.size;have:=u.out;exact O9 u.out Z.out.size)).trans a2
   replace n:=(a.cell (p:=(aA (w.heap.size+1) 2)) (by exact O9 C.out Z.out.size)).trans n
   have s:=U0 (X5 A.out a);by_cases f:k<x.rs.length;rotate_left
   · obtain rfl:k=x.rs.length:=O0;have HR:Hid (x=y):=by
      have h1:=HW.out;have h2:=HX.out;have h3:=Wn Q.out hd.out;obtain ⟨_,_,_⟩:=x;obtain ⟨_,_,_⟩:=y;dsimp only at h1 h2 h3;subst h1 h2 h3;rfl
     go_wp2;go_ret;exact ⟨u_ HR.out,s.out⟩
   obtain ⟨ha,H,q⟩:=Cc W.out f;rcases U.out with E | ⟨K,F,o⟩
   · have d:=Q.out;rw [E] at d;rw [d] at f;exact absurd f (J8 _)
   subst ha;subst K;obtain ⟨ai,ci,g0,g1,g2,g3⟩:=(q k f).below H s.out;obtain ⟨bi,di,p0,p1,p2,p3⟩:=(o k (by have:=Q.out;omega)).below F s.out;have G3:=U0 g3;have P3:=U0 p3;have hx3:=X3.out k;have hy3:=Y3.out k;clear q o g3 p3;by_cases c:x.rs.getD k f_=y.rs.getD k f_
   · have S:Hid (∀ j,j<k+1->x.rs.getD j f_=y.rs.getD j f_):=fun j hj=>by
      rcases Q7 j k with h | h
      · exact hd.out j h
      · obtain rfl:j=k:=O0;exact c
     have R:=U0 c;generalize x.rs.getD k f_=X at*;generalize y.rs.getD k f_=Y at*;clear c hd
     go_wp2_with fail
     go_region_with (go_at_call 97;refine (c97 X Y ai bi ci di _ hx3 hy3 (P8 G3.out (Z4 _ _).drew) (P8 P3.out (Z4 _ _).drew)).mono ?_;rintro e w1 ⟨⟨L,rfl,I⟩,J⟩;obtain rfl:L=true:=I.2 R.out)
     all_goals go_wp2
     all_goals go_roundw
     all_goals first
      | exact ⟨k+1,O0,by go_num,S,(a.drew).trans (J.mono a.size)⟩
      | (simp [RowKit.intOf];omega)
   have g:Hid (¬ x=y):=fun h=>c (by rw [h]);have R:=U0 c;generalize x.rs.getD k f_=X at*;generalize y.rs.getD k f_=Y at*;clear c hd
   go_wp2_with fail
   go_region_with (go_at_call 97;refine (c97 X Y ai bi ci di _ hx3 hy3 (P8 G3.out (Z4 _ _).drew) (P8 P3.out (Z4 _ _).drew)).mono ?_;rintro e w1 ⟨⟨L,rfl,I⟩,J⟩;obtain rfl:L=false:=Fh.2 (fun h=>R.out (I.1 h)))
   all_goals go_wp2
   all_goals go_ret
   all_goals exact ⟨G5 g.out,(s.out.drew).trans (J.mono s.out.size)⟩
end Go.Proofs.YtchjpjmcnhjbcaaGreatDoor
namespace Go.Proofs.YtchjpjmcnhjbcaaGreatDoor.G
open Proofs.Tryz Go.RowKit
section
variable {w:World} {l:LB} {b s:BY}
def UF (w:World) (a:OA) (l:LB):Prop:=l=[]\/∃ b off,a=some ⟨b,off,none⟩/\b<w.heap.size/\∀ i,i<l.length->w.cell? ⟨b,off+i,none⟩=some (.string (l.getD i ⟨#[]⟩))
theorem oG {a:OA} (h:UF w a l):∃ b off,(l=[]\/(a=some ⟨b,off,none⟩/\b<w.heap.size/\∀ i,i<l.length->w.cell? ⟨b,off+i,none⟩=some (.string (l.getD i ⟨#[]⟩)))):=by
 rcases h with h | ⟨b,off,h⟩
 · exact ⟨0,0,.inl h⟩
 exact ⟨b,off,.inr h⟩
def JL (l:LB) (s:BY):Bool:=l.any fun x=>decide (x=s)
theorem Lh:JL l s=true↔s∈l:=by
 simp [JL]
theorem c62 (a:OA) (q:Nat) (l:LB) (s:BY) (w:World) (hl:l.length<=1000) (p:UF w a l):
 Calls prog 62 #[.slice a l.length q,.string s] w fun e w'=>e=.returned (.bool (JL l s))/\w'=w:=by
 obtain ⟨b,off,hc⟩:=oG p;have t:=U0 hc;clear p hc;go_enter func62,ntmps62
 go_wp2_with fail
 go_loopw [5] (fun c wr=>∃ k:Nat,k<=l.length/\c=.int .i64 k/\wr=w/\Hid (∀ j,j<k->l.getD j ⟨#[]⟩≠s)) (fun c _=>l.length - (RowKit.intOf c).toNat)
 case atStart=>exact ⟨0,J4 _,rfl,rfl,fun j h=>absurd h (J8 _)⟩
 obtain ⟨k,hk,rfl,rfl,hd⟩:=hrel;by_cases f:k<l.length;rotate_left
 · have g:Hid (JL l s=false):=by
    show _=_;rw [<- Bool.not_eq_true,Lh];intro hm;obtain ⟨j,n,rfl⟩:=Zd hm;exact hd.out j O0 (by simp [List.getD,Z8 n])
   clear hd;go_wp2;go_ret;exact ⟨by rw [g.out];rfl,rfl⟩
 obtain ⟨ha,hbw,o⟩:=Cc t.out f;subst ha;have g0:=o k f;have i:Hid (l.getD k ⟨#[]⟩∈l):=by show _∈_;simp [List.getD,Z8 f]
 have m:Hid (l.getD k ⟨#[]⟩≠s->∀ j,j<k+1->l.getD j ⟨#[]⟩≠s):=fun h j n=>by
  rcases Q7 j k with h1 | h1
  · exact hd.out j h1
  obtain rfl:j=k:=O0;exact h
 generalize l.getD k ⟨#[]⟩=x at*;clear o;cases hq:(x.toList==s.toList);rotate_left
 · have d:x=s:=by
    have:=Ko.1 hq;rw [ByteArray.toList_eq,ByteArray.toList_eq] at this;exact Df (Yk.1 this)
   subst d;have g:=U0 (Lh.2 i.out);clear m hd i;go_wp2;go_ret;exact ⟨by rw [g.out];rfl,rfl⟩
 have d:x≠s:=fun e=>by rw [e] at hq;simp at hq
 have r:=U0 (m.out d);clear m hd i;go_wp2;go_roundw
 case rel=>exact ⟨k+1,O0,by go_num,trivial,r⟩
 case measure=>simp [RowKit.intOf];omega
end
theorem c164 (a:OA) (p:Nat) (l:LB) (s:BY) (w:World) (hl:l.length<=1000) (n:UF w a l):
 Calls prog 164 #[.slice a l.length p,.string s] w fun e w'=>(∃ r:Int,e=.returned (.int .i64 r)/\(0<=r↔s∈l))/\w'=w:=by
 obtain ⟨b,off,hc⟩:=oG n;have u:=U0 hc;clear n hc;go_enter func164,ntmps164
 go_wp2_with fail
 go_loopw [8] (fun c wr=>∃ k:Nat,k<=l.length/\c=.int .i64 k/\wr=w/\Hid (∀ j,j<k->l.getD j ⟨#[]⟩≠s)) (fun c _=>l.length - (RowKit.intOf c).toNat)
 case atStart=>exact ⟨0,J4 _,rfl,rfl,fun j h=>absurd h (J8 _)⟩
 obtain ⟨k,hk,rfl,rfl,hd⟩:=hrel;by_cases f:k<l.length;rotate_left
 · have q:Hid (s∉l):=fun hm=>by
    obtain ⟨j,i,rfl⟩:=Zd hm;exact hd.out j O0 (by simp [List.getD,Z8 i])
   clear hd;go_wp2;go_ret;exact ⟨⟨-1,rfl,⟨fun h=>O0,fun h=>absurd h q.out⟩⟩,rfl⟩
 obtain ⟨ha,hbw,m⟩:=Cc u.out f;subst ha;have g0:=m k f;have o:Hid (l.getD k ⟨#[]⟩∈l):=by show _∈_;simp [List.getD,Z8 f]
 have g:Hid (l.getD k ⟨#[]⟩≠s->∀ j,j<k+1->l.getD j ⟨#[]⟩≠s):=fun h j i=>by
  rcases Q7 j k with h1 | h1
  · exact hd.out j h1
  obtain rfl:j=k:=O0;exact h
 generalize l.getD k ⟨#[]⟩=x at*;clear m;cases hq:(s.toList==x.toList);rotate_left
 · have d:s=x:=by
    have:=Ko.1 hq;rw [ByteArray.toList_eq,ByteArray.toList_eq] at this;exact Df (Yk.1 this)
   subst d;clear g hd;go_wp2;go_ret;exact ⟨⟨k,rfl,⟨fun _=>o.out,fun _=>O0⟩⟩,rfl⟩
 have d:x≠s:=fun e=>by rw [e] at hq;simp at hq
 have t:=U0 (g.out d);clear g hd o;go_wp2;go_roundw
 case rel=>exact ⟨k+1,O0,by go_num,trivial,t⟩
 case measure=>simp [RowKit.intOf];omega
theorem c117 (a:OA) (d:Nat) (l:LB) (s:BY) (w:World) (hl:l.length<=1000) (c:UF w a l):
 Calls prog 117 #[.slice a l.length d,.string s] w fun e w'=>e=.returned (.bool (JL l s))/\w'=w:=by
 have h:=c164 a d l s w hl c;clear c;go_enter func117,ntmps117
 go_wp2_with fail
 refine h.mono ?_;rintro e w1 ⟨⟨r,rfl,hr⟩,rfl⟩;clear h;by_cases h0:0<=r
 · have b:=U0 (Lh.2 (hr.1 h0));clear hr;go_wp2;go_ret;exact ⟨by rw [b.out];rfl,rfl⟩
 have b:Hid (JL l s=false):=by show _=_;rw [<- Bool.not_eq_true,Lh];exact fun h=>h0 (hr.2 h)
 clear hr;go_wp2;go_ret;have f:decide (0<=r)=false:=by simpa using h0
 exact ⟨by rw [b.out,f];rfl,rfl⟩
end Go.Proofs.YtchjpjmcnhjbcaaGreatDoor.G
namespace Go.Proofs.YtchjpjmcnhjbcaaGreatDoor
open Proofs.Tryz Go.RowKit Go.Maps
theorem a3A (a o:OA) (z y:Nat) (is:List R3) (w:World) (hl:is.length<=1048576) (f:∀ i,(is.getD i f_).gs.length<=1048576) (m:ug w a is) (l:ug w o is):
 Calls prog 81 #[.slice a is.length z,.slice o is.length y] w fun e w'=>e=.returned (.bool true)/\Bw w w':=by
 obtain ⟨b,off,hc⟩:=Ie m;have H:=U0 hc;obtain ⟨b',off',j⟩:=Ie l;have F:=U0 j;have C:=U0 f;clear hc m j l f;go_enter func81,ntmps81
 go_wp2_with fail
 go_loopw [5] (fun i wr=>∃ (k:Nat),k<=is.length/\i=.int .i64 k/\Below w.heap.size w wr) (fun i _=>is.length - (RowKit.intOf i).toNat)
 case atStart=>exact ⟨0,J4 _,rfl,Z4 _ _⟩
 case round=>
  obtain ⟨k,hk,rfl,c⟩:=hrel;by_cases d:k<is.length
  · obtain ⟨ha,r,h⟩:=Cc H.out d;obtain ⟨t,q,g⟩:=Cc F.out d;subst ha;subst t;obtain ⟨B,v,e0,e1,e2,n⟩:=(h k d).below r c;obtain ⟨A,u,f0,f1,f2,f3⟩:=(g k d).below q c;have p:=C.out k;generalize is.getD k f_=x at*;have E:=U0 n;have D:=U0 f3;clear h g n f3
    go_wp2_with fail
    go_region_with (go_at_call 129;refine (a3X x B A v u _ p (P8 E.out (Z4 _ _).drew) (P8 D.out (Z4 _ _).drew)).mono ?_;rintro e w1 ⟨rfl,s⟩)
    all_goals go_wp2
    all_goals go_roundw
    all_goals first
     | exact ⟨k+1,O0,by go_num,(c.drew).trans (s.mono c.size)⟩
     | (simp [RowKit.intOf];omega)
  · go_wp2;go_ret;exact ⟨rfl,c⟩
theorem a2Y (ta ra b a:OA) (tc rc f c:Nat) (s:St) (w:World) (g:s.ts.length<=1048576/\s.rs.length<=1048576/\∀ i,(s.rs.getD i f_).gs.length<=1048576) (k:Ig w ta ra s) (j:Ig w b a s):
 Calls prog 31 #[.agg #[.int .i64 s.wd,.slice ta s.ts.length tc,.slice ra s.rs.length rc],.agg #[.int .i64 s.wd,.slice b s.ts.length f,.slice a s.rs.length c]] w fun e w'=>e=.returned (.bool true)/\Bw w w':=by
 have p:=U0 g;have u:=U0 k;have t:=U0 j;have m:Bw w ((w.alloc (.cells #[vI s.wd,vL ta s.ts.length tc,vL ra s.rs.length rc] 43)).alloc (.cells #[vI s.wd,vL b s.ts.length f,vL a s.rs.length c] 43)):=P6.alloc X4 _;have o:=c33 ta b tc f s.ts _ g.1 (U5 k.1 m) (U5 j.1 m);clear g k j;go_enter func31,ntmps31
 go_wp2_with fail
 refine o.mono ?_;rintro e d ⟨rfl,h⟩;have l:=m.trans (h.mono U7);have g2:d.cell? ⟨w.heap.size,2,none⟩=some (vL ra s.rs.length rc):=by rw [h.cell U7];simp [go_sem]
 have g3:d.cell? ⟨w.heap.size+1,2,none⟩=some (vL a s.rs.length c):=by rw [h.cell X4];simp [go_sem]
 have n:=a3A ra a rc c s.rs d p.out.2.1 p.out.2.2 (dh u.out.2 l) (dh t.out.2 l);clear o
 go_wp2_with fail
 refine n.mono ?_;rintro e w2 ⟨rfl,q⟩;have r:=X5 l q;clear n;go_wp2;go_ret;exact ⟨rfl,r⟩
open Go.RowKit
theorem c8 (b:Bs) (q p:Ba) (w:World) (hl:Gj b 1048576) (F:Oh w b q) (H:Oh w b p):
 Calls prog 8 #[.agg (bsV b q).toArray,.agg (bsV b p).toArray] w fun e w'=>e=.returned (.bool true)/\Bw w w':=by
 have X:=U0 F;have Y:=U0 H;have c:=U0 hl;clear F H hl;go_enter func8,ntmps8
 go_upto_region 1 with fail
 have f:=U0 (G9 (Y4 w (bsV b q) 47) (.cells (bsV b p).toArray 47));have d:Hid (Cl ((w.alloc (.cells (bsV b q).toArray 47)).alloc (.cells (bsV b p).toArray 47)) (w.heap.size+1) 47 (bsV b p)):=by show Cl _ _ _ _;have h:=Y4 (w.alloc (.cells (bsV b q).toArray 47)) (bsV b p) 47;simpa using h
 have k:Hid (Bw w ((w.alloc (.cells (bsV b q).toArray 47)).alloc (.cells (bsV b p).toArray 47))):=P6.alloc X4 _;generalize (w.alloc (.cells (bsV b q).toArray 47)).alloc (.cells (bsV b p).toArray 47)=V0 at*;have a0:=f.out.cell 0;have d0:=d.out.cell 0;have a1:=f.out.cell 1;have Z:=d.out.cell 1;have a2:=f.out.cell 2;have Q:=d.out.cell 2;have a3:=f.out.cell 3;have P:=d.out.cell 3;have a4:=f.out.cell 4;have O:=d.out.cell 4;have a5:=f.out.cell 5;have N:=d.out.cell 5;have a6:=f.out.cell 6;have L:=d.out.cell 6;simp only [@gz Value] at a0 d0 a1 Z a2 Q a3 P a4 O a5 N a6 L
 go_wp2_with fail
 clear a0 d0 a1 Z a2 Q a3 P a4 O a5 N a6 L;refine (c29 q.sa q.la p.sa p.la q.sc q.lc p.sc p.lc b.sf b.lo V0 c.out.sl c.out.ll (U5 X.out.sf k.out) (U5 X.out.lo k.out) (U5 Y.out.sf k.out) (U5 Y.out.lo k.out)).mono ?_;rintro e V1 ⟨rfl,a⟩;have E:=U0 (X5 k.out a);have y:=U0 (f.out.below a f.out.lt);have r:=U0 (d.out.below a d.out.lt);clear a f d k;have a7:=y.out.cell 7;have K:=r.out.cell 7;simp only [@gz Value] at a7 K
 go_wp2_with fail
 clear a7 K;refine (T.c30 q.fa p.fa q.fc p.fc b.fs V1 c.out.fl (T.J5 X.out.fs E.out) (T.J5 Y.out.fs E.out)).mono ?_;rintro e V2 ⟨rfl,a⟩;have D:=U0 (X5 E.out a);have j:=U0 (y.out.below a y.out.lt);have g:=U0 (r.out.below a r.out.lt);clear a y r E;have a8:=j.out.cell 8;have J:=g.out.cell 8;have a9:=j.out.cell 9;have I:=g.out.cell 9;have a10:=j.out.cell 10;have W:=g.out.cell 10;simp only [@gz Value] at a8 J a9 I a10 W
 go_wp2_with fail
 clear a8 J a9 I a10 W;refine (a2Y q.ta q.ra p.ta p.ra q.tc q.rc p.tc p.rc b.s V2 ⟨c.out.st.1.1,c.out.st.2.1,fun i=>(c.out.st.2.2 i).2.1⟩ (X.out.st.below D.out) (Y.out.st.below D.out)).mono ?_;rintro e V3 ⟨rfl,a⟩;have C:=U0 (X5 D.out a);have x:=U0 (j.out.below a j.out.lt);have o:=U0 (g.out.below a g.out.lt);clear a j g D;have a11:=x.out.cell 11;have V:=o.out.cell 11;simp only [@gz Value] at a11 V
 go_wp2_with fail
 clear a11 V;refine (c32 q.ha p.ha q.hc p.hc b.hd V3 c.out.hl (oh X.out.hd C.out) (oh Y.out.hd C.out)).mono ?_;rintro e V4 ⟨rfl,a⟩;have B:=U0 (X5 C.out a);have v:=U0 (x.out.below a x.out.lt);have n:=U0 (o.out.below a o.out.lt);clear a x o C;have a12:=v.out.cell 12;have U:=n.out.cell 12;simp only [@gz Value] at a12 U
 go_wp2_with fail
 clear a12 U;refine (c33 q.oa p.oa q.oc p.oc b.rt V4 c.out.rl (U5 X.out.rt B.out) (U5 Y.out.rt B.out)).mono ?_;rintro e V5 ⟨rfl,a⟩;have A:=U0 (X5 B.out a);have u:=U0 (v.out.below a v.out.lt);have m:=U0 (n.out.below a n.out.lt);clear a v n B;have a13:=u.out.cell 13;have S:=m.out.cell 13;simp only [@gz Value] at a13 S
 go_wp2_with fail
 clear a13 S;refine (c34 q.na p.na q.nc p.nc b.rn V5 c.out.nl (fun i=>(c.out.ns i).2.2.1.1) (Le X.out.rn A.out) (Le Y.out.rn A.out)).mono ?_;rintro e V6 ⟨rfl,a⟩;have z:=U0 (X5 A.out a);have t:=U0 (u.out.below a u.out.lt);have l:=U0 (m.out.below a m.out.lt);clear a u m A;have a14:=t.out.cell 14;have R:=l.out.cell 14;simp only [@gz Value] at a14 R
 go_wp2_with fail
 clear a14 R;refine (c35 q.ja p.ja q.jc p.jc b.jb V6 c.out.jl (Vk X.out.jb z.out) (Vk Y.out.jb z.out)).mono ?_;rintro e V7 ⟨rfl,a⟩;have B7:=U0 (X5 z.out a);have C7:=U0 (t.out.below a t.out.lt);have D7:=U0 (l.out.below a l.out.lt);clear a t l z;go_wp2;go_ret;exact ⟨rfl,B7.out⟩
