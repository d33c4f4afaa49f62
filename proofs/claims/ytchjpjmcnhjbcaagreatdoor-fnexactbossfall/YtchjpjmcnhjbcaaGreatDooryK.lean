import Derived.Test.YtchjpjmcnhjbcaaGreatDoorvK
import Derived.Test.YtchjpjmcnhjbcaaGreatDooryE
set_option linter.unusedVariables false
set_option maxHeartbeats 8000000
set_option maxRecDepth 100000
namespace Go.Proofs.YtchjpjmcnhjbcaaGreatDoor
open Proofs.Tryz Go.RowKit
variable {A B:Nat} {V w:World} {t:TypeId} {cs:List Value} {S S':List TypeId}
theorem c4 (b:Bs) (q:Ba) (l:Int) (w:World) (h0:0<=l) (h1:l<=1048576) (S:Gj b 9223372036854775807) (U:Oh w b q):
 Calls prog 4 #[.agg (bsV b q).toArray,.int .i64 l] w fun e w'=>(∃ r:Int,e=.returned (.int .i64 r)/\(0<=r->Gj b 1048576/\b.sf.length+b.lo.length<=1048576))/\Bw w w':=by
 have f:=U0 U;have c:=U0 S;clear U S;go_enter func4,ntmps4
 go_upto_region 1 with fail
 have j:=U0 (Y4 w (bsV b q) 35);have L:=U0 (P6 (w:=w) (o:=.cells (bsV b q).toArray 35));generalize w.alloc (.cells (bsV b q).toArray 35)=V0 at*;have Z:=j.out.cell 5;have Y:=j.out.cell 6;simp only [@gz Value] at Z Y
 go_wp2_with fail
 clear Z Y;refine (c11 q.sa q.la q.sc q.lc b.sf b.lo l V0 h0 h1 c.out.ss c.out.ls c.out.sl c.out.ll (U5 f.out.sf L.out) (U5 f.out.lo L.out)).mono ?_;rintro e V1 ⟨⟨u,rfl,hr⟩,a⟩;have R1:=U0 hr;have K:=U0 (X5 L.out a);have E:=U0 (j.out.below a j.out.lt);clear hr a j L;by_cases d:u<0
 · go_wp2;go_ret;exact ⟨⟨-1,rfl,fun h=>O0⟩,K.out⟩
 have i:=R1.out O0;have F1:=U0 (i.1);have F2:=U0 (i.2.1);have Q:=U0 (i.2.2.1);have e1:u<=1048576:=by have:=i.2.2.2;omega
 have n1:0<=u:=O0;clear R1 i d;have X:=E.out.cell 7;simp only [@gz Value] at X
 go_wp2_with fail
 clear X;refine (c12 q.fa q.fc b.fs u V1 O0 O0 c.out.fz c.out.fl (T.J5 f.out.fs K.out)).mono ?_;rintro e V2 ⟨⟨t,rfl,hr⟩,a⟩;have R2:=U0 hr;have J:=U0 (X5 K.out a);have g:=U0 (E.out.below a E.out.lt);clear hr a E K;by_cases d:t<0
 · go_wp2;go_ret;exact ⟨⟨-1,rfl,fun h=>O0⟩,J.out⟩
 have z:=R2.out O0;have F4:=U0 (z.1);have F5:=U0 (z.2.1);have e2:t<=1048576:=by have:=z.2.2;omega
 have n2:0<=t:=O0;clear R2 z d;have W:=g.out.cell 8;have V:=g.out.cell 9;have a10:=g.out.cell 10;simp only [@gz Value] at W V a10
 go_wp2_with fail
 clear W V a10;refine (c13 q.ta q.ra q.tc q.rc b.s t V2 O0 O0 c.out.st (f.out.st.below J.out)).mono ?_;rintro e V3 ⟨⟨p,rfl,hr⟩,a⟩;have R3:=U0 hr;have R:=U0 (X5 J.out a);have D:=U0 (g.out.below a g.out.lt);clear hr a g J;by_cases d:p<0
 · go_wp2;go_ret;exact ⟨⟨-1,rfl,fun h=>O0⟩,R.out⟩
 have O:=R3.out O0;have F6:=U0 (O.1.1);have e3:p<=1048576:=by have:=O.2;omega
 have n3:0<=p:=O0;clear R3 O d;have a11:=D.out.cell 11;simp only [@gz Value] at a11
 go_wp2_with fail
 clear a11;refine (c14 q.ha q.hc b.hd.length p V3 O0 O0 c.out.hl).mono ?_;rintro e P ⟨⟨n,rfl,hr⟩,a⟩
 replace a:Bw V3 P:=by rw [a];exact Z4 _ _
 have R4:=U0 hr;have I:=U0 (X5 R.out a);have C:=U0 (D.out.below a D.out.lt);clear hr a D R;by_cases d:n<0
 · go_wp2;go_ret;exact ⟨⟨-1,rfl,fun h=>O0⟩,I.out⟩
 have N:=R4.out O0;have F7:=U0 (N.1);have e4:n<=1048576:=by have:=N.2;omega
 have n4:0<=n:=O0;clear R4 N d;have a12:=C.out.cell 12;simp only [@gz Value] at a12
 go_wp2_with fail
 clear a12;refine (c15 q.oa q.oc b.rt n P O0 O0 c.out.rs c.out.rl (U5 f.out.rt I.out)).mono ?_;rintro e V5 ⟨⟨m,rfl,hr⟩,a⟩
 replace a:Bw P V5:=by rw [a];exact Z4 _ _
 have R5:=U0 hr;have H:=U0 (X5 I.out a);have B:=U0 (C.out.below a C.out.lt);clear hr a C I;by_cases d:m<0
 · go_wp2;go_ret;exact ⟨⟨-1,rfl,fun h=>O0⟩,H.out⟩
 have y:=R5.out O0;have F8:=U0 (y.1);have F9:=U0 (y.2.1);have e5:m<=1048576:=by have:=y.2.2;omega
 have n5:0<=m:=O0;clear R5 y d;have a13:=B.out.cell 13;simp only [@gz Value] at a13
 go_wp2_with fail
 clear a13;refine (c16 q.na q.nc b.rn m V5 O0 O0 c.out.ns c.out.nl (Le f.out.rn H.out)).mono ?_;rintro e V6 ⟨⟨k,rfl,hr⟩,a⟩;have R6:=U0 hr;have F:=U0 (X5 H.out a);have A:=U0 (B.out.below a B.out.lt);clear hr a B H;by_cases d:k<0
 · go_wp2;go_ret;exact ⟨⟨-1,rfl,fun h=>O0⟩,F.out⟩
 have x:=R6.out O0;have FA:=U0 (x.1);have FB:=U0 (x.2.1);have e6:k<=1048576:=by have:=x.2.2;omega
 have n6:0<=k:=O0;clear R6 x d;have a14:=A.out.cell 14;simp only [@gz Value] at a14
 go_wp2_with fail
 clear a14;refine (c17 q.ja q.jc b.jb k V6 O0 O0 c.out.js c.out.jl (Vk f.out.jb F.out)).mono ?_;rintro e V7 ⟨⟨r7,rfl,hr⟩,a⟩;have R7:=U0 hr;have B7:=U0 (X5 F.out a);have C7:=U0 (A.out.below a A.out.lt);clear hr a A F;by_cases d:r7<0
 · go_wp2;go_ret;exact ⟨⟨-1,rfl,fun h=>O0⟩,B7.out⟩
 have v:=R7.out O0;have FC:=U0 (v.1);have FD:=U0 (v.2.1);have e7:r7<=1048576:=by have:=v.2.2;omega
 have n7:0<=r7:=O0;clear R7 v d;go_wp2;go_ret;exact ⟨⟨_,rfl,fun h=>⟨⟨by have:=Q.out;omega,F1.out,by have:=Q.out;omega,F2.out,F4.out,F5.out,F6.out,F7.out,F8.out,F9.out,FA.out,FB.out,FC.out,FD.out⟩,Q.out⟩⟩,B7.out⟩
theorem c29 (sa la a b:OA) (sc lc d f:Nat) (sf lo:LB) (w:World) (h1:sf.length<=1048576) (h2:lo.length<=1048576) (o:P7 w sa sf) (hl:P7 w la lo) (n:P7 w a sf) (p:P7 w b lo):
 Calls prog 29 #[.agg #[.slice sa sf.length sc,.slice la lo.length lc],.agg #[.slice a sf.length d,.slice b lo.length f]] w fun e w'=>e=.returned (.bool true)/\Bw w w':=by
 have y:=U0 o;have x:=U0 hl;have v:=U0 n;have u:=U0 p;clear o hl n p;go_enter func29,ntmps29
 go_upto_region 1 with fail
 have k:=U0 (G9 (Y4 w [vL sa sf.length sc,vL la lo.length lc] 37) (.cells #[vL a sf.length d,vL b lo.length f] 37));have i:Hid (Cl ((w.alloc (.cells #[vL sa sf.length sc,vL la lo.length lc] 37)).alloc (.cells #[vL a sf.length d,vL b lo.length f] 37)) (w.heap.size+1) 37 [vL a sf.length d,vL b lo.length f]):=by show Cl _ _ _ _;have h:=Y4 (w.alloc (.cells #[vL sa sf.length sc,vL la lo.length lc] 37)) [vL a sf.length d,vL b lo.length f] 37;simpa using h
 have m:Hid (Bw w ((w.alloc (.cells #[vL sa sf.length sc,vL la lo.length lc] 37)).alloc (.cells #[vL a sf.length d,vL b lo.length f] 37))):=P6.alloc X4 _;generalize (w.alloc (.cells #[vL sa sf.length sc,vL la lo.length lc] 37)).alloc (.cells #[vL a sf.length d,vL b lo.length f] 37)=z at*;have t:=k.out.cell 0;have r:=i.out.cell 0;simp only [@gz Value] at t r
 go_wp2_with fail
 clear t r;refine (c33 sa a sc d sf z h1 (U5 y.out m.out) (U5 v.out m.out)).mono ?_;rintro e V1 ⟨rfl,c⟩;have l:=U0 (X5 m.out c);have j:=U0 (k.out.below c k.out.lt);have g:=U0 (i.out.below c i.out.lt);clear c k i m;have s:=j.out.cell 1;have q:=g.out.cell 1;simp only [@gz Value] at s q
 go_wp2_with fail
 clear s q;refine (c33 la b lc f lo V1 h2 (U5 x.out l.out) (U5 u.out l.out)).mono ?_;rintro e V2 ⟨rfl,c⟩;have A:=U0 (X5 l.out c);have C2:=U0 (j.out.below c j.out.lt);have D2:=U0 (g.out.below c g.out.lt);clear c j g l;go_wp2;go_ret;exact ⟨rfl,A.out⟩
theorem c82 (x:Rn) (d b:OA) (f c:Nat) (w:World) (hl:x.ls.length<=1048576) (n:o9 w d x.ls) (m:o9 w b x.ls):
 Calls prog 82 #[.agg #[.string x.nm,.int .i64 x.md,.string x.wt,.slice d x.ls.length f,.int .i64 x.cd,.string x.tx],.agg #[.string x.nm,.int .i64 x.md,.string x.wt,.slice b x.ls.length c,.int .i64 x.cd,.string x.tx]] w fun e w'=>e=.returned (.bool true)/\Bw w w':=by
 have D:=U0 n;have C:=U0 m;clear n m;go_enter func82,ntmps82
 go_upto_region 1 with fail
 have i:=U0 (G9 (Y4 w [vS x.nm,vI x.md,vS x.wt,vL d x.ls.length f,vI x.cd,vS x.tx] 105) (.cells #[vS x.nm,vI x.md,vS x.wt,vL b x.ls.length c,vI x.cd,vS x.tx] 105));have g:Hid (Cl ((w.alloc (.cells #[vS x.nm,vI x.md,vS x.wt,vL d x.ls.length f,vI x.cd,vS x.tx] 105)).alloc (.cells #[vS x.nm,vI x.md,vS x.wt,vL b x.ls.length c,vI x.cd,vS x.tx] 105)) (w.heap.size+1) 105 [vS x.nm,vI x.md,vS x.wt,vL b x.ls.length c,vI x.cd,vS x.tx]):=by show Cl _ _ _ _;have h:=Y4 (w.alloc (.cells #[vS x.nm,vI x.md,vS x.wt,vL d x.ls.length f,vI x.cd,vS x.tx] 105)) [vS x.nm,vI x.md,vS x.wt,vL b x.ls.length c,vI x.cd,vS x.tx] 105;simpa using h
 have l:Hid (Bw w ((w.alloc (.cells #[vS x.nm,vI x.md,vS x.wt,vL d x.ls.length f,vI x.cd,vS x.tx] 105)).alloc (.cells #[vS x.nm,vI x.md,vS x.wt,vL b x.ls.length c,vI x.cd,vS x.tx] 105))):=P6.alloc X4 _;generalize (w.alloc (.cells #[vS x.nm,vI x.md,vS x.wt,vL d x.ls.length f,vI x.cd,vS x.tx] 105)).alloc (.cells #[vS x.nm,vI x.md,vS x.wt,vL b x.ls.length c,vI x.cd,vS x.tx] 105)=E at*;have A:=i.out.cell 0;have t:=g.out.cell 0;have z:=i.out.cell 1;have s:=g.out.cell 1;have a2:=i.out.cell 2;have r:=g.out.cell 2;have y:=i.out.cell 3;have q:=g.out.cell 3;simp only [@gz Value] at A t z s a2 r y q
 go_wp2_with fail
 clear A t z s a2 r y q;refine (c130 d b f c x.ls E hl (l7 D.out l.out) (l7 C.out l.out)).mono ?_;rintro e V1 ⟨rfl,a⟩;have B:=U0 (X5 l.out a);have k:=U0 (i.out.below a i.out.lt);have j:=U0 (g.out.below a g.out.lt);clear a i g l;have v:=k.out.cell 4;have p:=j.out.cell 4;have u:=k.out.cell 5;have o:=j.out.cell 5;simp only [@gz Value] at v p u o
 go_wp2_with fail
 clear v p u o;refine (c131 x.cd x.tx V1).mono ?_;rintro e V2 ⟨rfl,a⟩;have F:=U0 (X5 B.out a);have C2:=U0 (k.out.below a k.out.lt);have D2:=U0 (j.out.below a j.out.lt);clear a k j B;go_wp2;go_ret;exact ⟨rfl,F.out⟩
theorem c34 (a J:OA) (R Q:Nat) (is:List Rn) (w:World) (hl:is.length<=1048576) (r:∀ i,(is.getD i X_).ls.length<=1048576) (E:Aj w a is) (D:Aj w J is):
 Calls prog 34 #[.slice a is.length R,.slice J is.length Q] w fun e w'=>e=.returned (.bool true)/\Bw w w':=by
 obtain ⟨b,off,hc⟩:=N_ E;have Y:=U0 hc;obtain ⟨b',q,v⟩:=N_ D;have X:=U0 v;have V:=U0 r;clear hc E v D r;go_enter func34,ntmps34
 go_wp2_with fail
 go_loopw [5] (fun i wr=>∃ (k:Nat),k<=is.length/\i=.int .i64 k/\Below w.heap.size w wr) (fun i _=>is.length - (RowKit.intOf i).toNat)
 case atStart=>exact ⟨0,J4 _,rfl,Z4 _ _⟩
 case round=>
  obtain ⟨k,hk,rfl,c⟩:=hrel;by_cases d:k<is.length;rotate_left
  · go_wp2;go_ret;exact ⟨rfl,c⟩
  obtain ⟨ha,C,t⟩:=Cc Y.out d;obtain ⟨P,A,s⟩:=Cc X.out d;subst ha;subst P;have hd:Bw wr wr.drew:=(Z4 _ _).drew;have z:=O9 C c.size;have y:=O9 A c.size;obtain ⟨n,l,I,H⟩:=((t k d).below C c).below z hd;obtain ⟨m,h,p,o⟩:=((s k d).below A c).below y hd;have O:=V.out k;generalize is.getD k X_=x at*;have Z:=U0 H;have U:=U0 o;have N:=U0 I;have L:=U0 p;have W:=U0 (X5 c hd);clear t s H o I p hd
  go_wp2_with fail
  refine wp_region_held_drew (S:=fun u=>Bc u b (off+k*6) (Nz (x,vL n x.ls.length l))/\Bc u b' (q+k*6) (Nz (x,vL m x.ls.length h))) Y2 ⟨N.out,L.out⟩ fun hH=>?_;refine tq 0 hH ?_;refine tq 1 hH ?_;refine Y0 2 ?_;refine tq 3 hH ?_ (hv:=fun u f=>X8 105 _ rfl (B:=b) (j:=off+k*6) (cs:=Nz (x,vL n x.ls.length l)) rfl f.1 underlying105 rfl Y2);refine tq 4 hH ?_;refine tq 5 hH ?_;refine Y0 6 ?_;refine tq 7 hH ?_ (hv:=fun u f=>X8 105 _ rfl (B:=b') (j:=q+k*6) (cs:=Nz (x,vL m x.ls.length h)) rfl f.2 underlying105 rfl Y2)
  try simp only [qq]
  refine rq 8 fun K F=>?_;go_simp;refine (c82 x n m l h wr.drew O Z.out U.out).mono ?_;rintro e w1 ⟨rfl,g⟩
  go_wp2_with fail
  refine E8 F ⟨N.out.below z g,L.out.below y g⟩ fun hH=>?_;clear F K;refine Y0 9 ?_;refine wdn ?_;go_wp2;go_roundw
  case rel=>exact ⟨k+1,O0,by go_num,X5 W.out g⟩
  case measure=>simp [RowKit.intOf];omega
def lH (s:BY):Prop:=s=⟨#[]⟩\/Y5 s.data.toList=true
def Gg (r:Rn):Prop:=Uf r.ls/\(((r.md=0\/r.md=1)/\(r.cd=0/\r.tx=⟨#[]⟩)/\lH r.wt)\/(r.md=2/\vr r.cd r.tx.data.toList=true/\r.wt=⟨#[]⟩))
theorem Qe {s:BY} (h:¬ s=⟨#[]⟩):(s.toList==([]:List UInt8))=false:=p_.2 (fun e=>h (by
 apply Df;rw [ByteArray.toList_eq] at e;exact Yk.1 e))
theorem a1Z (x:Rn) (c:OA) (b:Nat) (w:World):
 Calls prog 178 #[.agg #[.string x.nm,.int .i64 x.md,.string x.wt,.slice c x.ls.length b,.int .i64 x.cd,.string x.tx]] w fun e w'=>Rb (x.md=1/\x.wt=⟨#[]⟩) e/\Bw w w':=by
 go_enter func178,ntmps178
 go_upto_region 1 with fail
 have g:=U0 (Y4 w [vS x.nm,vI x.md,vS x.wt,vL c x.ls.length b,vI x.cd,vS x.tx] 105);have d:=U0 (P6 (w:=w) (o:=.cells #[vS x.nm,vI x.md,vS x.wt,vL c x.ls.length b,vI x.cd,vS x.tx] 105));generalize w.alloc (.cells #[vS x.nm,vI x.md,vS x.wt,vL c x.ls.length b,vI x.cd,vS x.tx] 105)=V at*;have f:=g.out.cell 1;have a2:=g.out.cell 2;simp only [@gz Value] at f a2;by_cases h1:x.md=1;rotate_left
 · have a:Hid (¬ (x.md=1/\x.wt=⟨#[]⟩)):=fun h=>h1 h.1;go_wp2;go_ret;exact ⟨G5 a.out,d.out⟩
 rw [h1] at f;by_cases h2:x.wt=⟨#[]⟩
 · have i:Hid (x.md=1/\x.wt=⟨#[]⟩):=⟨h1,h2⟩;rw [h2] at a2;go_wp2;go_ret;exact ⟨u_ i.out,d.out⟩
 have a:Hid (¬ (x.md=1/\x.wt=⟨#[]⟩)):=fun h=>h2 h.2;have z:=Qe h2;go_wp2;go_ret;exact ⟨by first | exact G5 a.out | (rw [z];exact G5 a.out) | (simp only [z];exact G5 a.out),d.out⟩
theorem c119 (x:Rn) (f:OA) (g:Nat) (w:World) (y:x.le 1048576) (A:o9 w f x.ls):
 Calls prog 119 #[.agg #[.string x.nm,.int .i64 x.md,.string x.wt,.slice f x.ls.length g,.int .i64 x.cd,.string x.tx]] w fun e w'=>Rb (Gg x) e/\Bw w w':=by
 have I:=U0 A;have l:=U0 y;clear A y;go_enter func119,ntmps119
 go_upto_region 1 with fail
 have m:=U0 (Y4 w [vS x.nm,vI x.md,vS x.wt,vL f x.ls.length g,vI x.cd,vS x.tx] 105);have u:=U0 (P6 (w:=w) (o:=.cells #[vS x.nm,vI x.md,vS x.wt,vL f x.ls.length g,vI x.cd,vS x.tx] 105));generalize w.alloc (.cells #[vS x.nm,vI x.md,vS x.wt,vL f x.ls.length g,vI x.cd,vS x.tx] 105)=V at*;have B:=m.out.cell 3;simp only [@gz Value] at B
 go_wp2_with fail
 refine (c168 f g x.ls V l.out.2.2.1.1 l.out.2.2.1.2 (l7 I.out u.out)).mono ?_;rintro e v ⟨⟨F,rfl,i⟩,p⟩;have d:=U0 (m.out.below p m.out.lt);have b:=U0 (X5 u.out p);clear p B m u;have c:=d.out.cell 1;have a2:=d.out.cell 2;have j:=d.out.cell 4;have q:=d.out.cell 5;simp only [@gz Value] at c a2 j q
 cases F with
 | false=>
  have a:Hid (¬ Gg x):=fun h=>by have:=i.2 h.1;cases this
  clear i;go_wp2;go_ret;exact ⟨G5 a.out,b.out⟩
 | true=>
 have s:=U0 (i.1 rfl);clear i;by_cases hm:x.md=0\/x.md=1
 · by_cases hc:x.cd=0;rotate_left
   · have a:Hid (¬ Gg x):=fun h=>by
      rcases h.2 with ⟨_,k,_⟩ | ⟨k,_⟩
      · exact hc k.1
      rw [k] at hm;omega
     rcases hm with hm | hm
     all_goals
      rw [hm] at c;go_wp2;go_ret;exact ⟨G5 a.out,b.out⟩
   by_cases ht:x.tx=⟨#[]⟩;rotate_left
   · have a:Hid (¬ Gg x):=fun h=>by
      rcases h.2 with ⟨_,k,_⟩ | ⟨k,_⟩
      · exact ht k.2
      rw [k] at hm;omega
     have z:=Qe ht;have z1:=p_.1 z;rw [hc] at j;rcases hm with hm | hm
     all_goals
      rw [hm] at c;go_wp2;go_ret;exact ⟨G5 a.out,b.out⟩
   rw [hc] at j;rw [ht] at q;by_cases hw:x.wt=⟨#[]⟩
   · have r:Hid (Gg x):=⟨s.out,.inl ⟨hm,⟨hc,ht⟩,.inl hw⟩⟩;rw [hw] at a2;rcases hm with hm | hm
     all_goals
      rw [hm] at c;go_wp2;go_ret;exact ⟨u_ r.out,b.out⟩
   have z:=Qe hw;have H:Hid (Y5 x.wt.data.toList=true↔Gg x):=⟨fun h=>⟨s.out,.inl ⟨hm,⟨hc,ht⟩,.inr h⟩⟩,fun h=>by
    rcases h.2 with ⟨_,_,k⟩ | ⟨k,_⟩
    · exact k.resolve_left hw
    rw [k] at hm;omega⟩
   rcases hm with hm | hm
   all_goals
    rw [hm] at c
    go_wp2_with fail
    refine (c116 x.wt v (by have:=l.out.2.1;omega)).mono ?_;rintro e D ⟨rfl,E⟩;obtain rfl:=E.symm;go_wp2;go_ret;exact ⟨⟨_,rfl,H.out⟩,b.out⟩
 by_cases h2:x.md=2;rotate_left
 · have a:Hid (¬ Gg x):=fun h=>by
    rcases h.2 with ⟨k,_⟩ | ⟨k,_⟩
    · exact hm k
    exact h2 k
   have m0:¬ x.md=0:=fun h=>hm (.inl h);have m1:¬ x.md=1:=fun h=>hm (.inr h);go_wp2;go_ret;exact ⟨G5 a.out,b.out⟩
 rw [h2] at c;have C:=U0 (pM x.cd x.tx v (by have:=l.out.2.2.2;omega))
 go_wp2_with fail
 refine C.out.mono ?_;rintro e D ⟨rfl,n⟩;have J:=U0 (d.out.below n d.out.lt);have t:=U0 (X5 b.out n);clear n C c a2 j q d b;have a2:=J.out.cell 2;simp only [@gz Value] at a2;by_cases hv:vr x.cd x.tx.data.toList=true;rotate_left
 · have a:Hid (¬ Gg x):=fun h=>by
    rcases h.2 with ⟨k,_⟩ | ⟨_,k,_⟩
    · exact hm k
    exact hv k
   rw [Fh.2 hv];go_wp2;go_ret;exact ⟨G5 a.out,t.out⟩
 rw [hv];by_cases hw:x.wt=⟨#[]⟩
 · have r:Hid (Gg x):=⟨s.out,.inr ⟨h2,hv,hw⟩⟩;rw [hw] at a2;go_wp2;go_ret;exact ⟨u_ r.out,t.out⟩
 have z:=Qe hw;have a:Hid (¬ Gg x):=fun h=>by
  rcases h.2 with ⟨k,_⟩ | ⟨_,_,k⟩
  · exact hm k
  exact hw k
 go_wp2;go_ret;exact ⟨by first | exact G5 a.out | (rw [z];exact G5 a.out) | (simp only [z];exact G5 a.out),t.out⟩
/-- A box that is kept while marks are set. -/
structure Bx (A B:Nat) (S:List TypeId) (w:World) (t:TypeId) (cs:List Value) (V:World):Prop where
 md:Md A B S w V
 c:Cl V w.heap.size t cs
theorem Ut:Bx A B [] w t cs (w.alloc (.cells cs.toArray t)):=⟨Md.of P6,Y4 _ _ _⟩
theorem Bx.go {a:World} (h:Bx A B S w t cs V) (hB:B<=w.heap.size) (m:Md A B S' V a):Bx A B (S++S') w t cs a:=⟨h.md.tr m,(m.block _ h.c.lt (.inr hB)).trans h.c⟩
theorem Bx.fin (h:Bx A B S w t cs V) (a:∀ t∈S,t∈S'):Md A B S' w V:=h.md.mono H8 H8 a
theorem kU.md {A' B' n m j c:Nat} {ti:TypeId} {w':World} {a:OA} (h:kU A B w a t n m j ti c) (k:Md A' B' S w w') (ht:t∉S):kU A B w' a t n m j ti c:=by
 obtain ⟨g,h1,h2,e,b⟩:=h;obtain ⟨xs,d,_⟩:=b.1;exact ⟨g,h1,h2,e,b.md k (k.ty g t xs d ht)⟩
theorem NU (A B:Nat) (a:OA) (n b:Nat) (K:Int) (w:World) (h1:1<=K) (h2:K<=90000000000000) (c:n<=1048576) (ho:Ow A B w a 9 n):
 Calls prog 40 #[.slice a n b,.int .i64 K] w fun e w'=>e=.returned (.int .i64 (K+(n:Int)))/\Md A B [9] w w':=by
 obtain ⟨g,xs,rfl,j,i,f,d⟩:=ho;exact (c40 A B g b n K w 9 xs h1 h2 c j i f d).mono fun e w' h=>⟨h.1,h.2.1⟩
theorem a2G (A B:Nat) (a:OA) (n b:Nat) (K:Int) (w:World) (h1:1<=K) (h2:K<=90000000000000) (c:n<=1048576) (ho:Ow A B w a 3 n):
 Calls prog 39 #[.slice a n b,.int .i64 K] w fun e w'=>e=.returned (.int .i64 (K+(n:Int)))/\Md A B [3] w w':=by
 obtain ⟨g,xs,rfl,j,i,f,d⟩:=ho;exact (c39 A B g b n K w 3 xs h1 h2 c j i f d).mono fun e w' h=>⟨h.1,h.2.1⟩
theorem c36 (A B:Nat) (sa la:OA) (n sc m lc:Nat) (K:Int) (w:World) (hB:B<=w.heap.size) (h1:1<=K) (h2:K<=80000000000000) (a:n<=1048576) (hm:m<=1048576) (ho:Ow A B w sa 9 n) (hl:Ow A B w la 9 m):
 Calls prog 36 #[.agg #[.slice sa n sc,.slice la m lc],.int .i64 K] w fun e w'=>e=.returned (.int .i64 (K+(n:Int)+(m:Int)))/\Md A B [9] w w':=by
 have d:=U0 ho;have b:=U0 hl;clear ho hl;go_enter func36,ntmps36
 go_upto_region 1 with fail
 have H:=U0 (Ut (A:=A) (B:=B) (w:=w) (t:=37) (cs:=[vL sa n sc,vL la m lc]));generalize w.alloc (.cells #[vL sa n sc,vL la m lc] 37)=V at*
 go_wp2_with (refine U8 H.out.c rfl _ _ rfl rfl rfl Y2 ?_)
 refine (NU A B sa n sc K V h1 O0 a (d.out.md H.out.md)).mono ?_;rintro e V1 ⟨rfl,md⟩
 replace H:=U0 (H.out.go hB md)
 clear md
 go_wp2_with (refine U8 H.out.c rfl _ _ rfl rfl rfl Y2 ?_)
 refine (NU A B la m lc _ V1 O0 O0 hm (b.out.md H.out.md)).mono ?_;rintro e V1 ⟨rfl,md⟩
 replace H:=U0 (H.out.go hB md)
 clear md;go_wp2;go_ret;exact ⟨rfl,H.out.fin (by simp)⟩
theorem c37 (A B:Nat) (a:OA) (n c:Nat) (K:Int) (w:World) (hB:B<=w.heap.size) (h1:1<=K) (h2:K<=80000000000000) (b:n<=1048576) (ho:Ow A B w a 133 (n*2)):
 Calls prog 37 #[.agg #[.slice a n c],.int .i64 K] w fun e w'=>e=.returned (.int .i64 (K+2*(n:Int)))/\Md A B [133] w w':=by
 have d:=U0 ho;clear ho;go_enter func37,ntmps37
 go_upto_region 1 with fail
 have H:=U0 (Ut (A:=A) (B:=B) (w:=w) (t:=40) (cs:=[vL a n c]));generalize w.alloc (.cells #[vL a n c] 40)=V at*
 go_wp2_with (refine U8 H.out.c rfl _ _ rfl rfl rfl Y2 ?_)
 refine (c84 A B a n c K V h1 O0 b (d.out.md H.out.md)).mono ?_;rintro e V1 ⟨rfl,m⟩
 replace H:=U0 (H.out.go hB m)
 clear m;go_wp2;go_ret;exact ⟨rfl,H.out.fin (by simp)⟩
theorem c38 (A B:Nat) (ta ra:OA) (n tc k rc:Nat) (wd K:Int) (w:World) (hB:B<=w.heap.size) (h1:1<=K) (h2:K<=40000000000000) (a:n<=1048576) (b:k<=1048576) (ho:Ow A B w ta 9 n) (hl:kU A B w ra 145 k 3 1 205 3):
 Calls prog 38 #[.agg #[.int .i64 wd,.slice ta n tc,.slice ra k rc],.int .i64 K] w fun e w'=>(∃ X:Int,e=.returned (.int .i64 X)/\K<=X/\X<=K+(n:Int)+3145730*(k:Int))/\Md A B [9,145,205] w w':=by
 have f:=U0 ho;have d:=U0 hl;clear ho hl;go_enter func38,ntmps38
 go_upto_region 1 with fail
 have H:=U0 (Ut (A:=A) (B:=B) (w:=w) (t:=43) (cs:=[vI wd,vL ta n tc,vL ra k rc]));generalize w.alloc (.cells #[vI wd,vL ta n tc,vL ra k rc] 43)=V at*
 go_wp2_with (refine U8 H.out.c rfl _ _ rfl rfl rfl Y2 ?_)
 refine (NU A B ta n tc K V h1 O0 a (f.out.md H.out.md)).mono ?_;rintro e V1 ⟨rfl,m⟩
 replace H:=U0 (H.out.go hB m)
 clear m
 go_wp2_with (refine U8 H.out.c rfl _ _ rfl rfl rfl Y2 ?_)
 refine (c85 A B ra k rc _ V1 O0 O0 b (d.out.md H.out.md (by decide))).mono ?_;rintro e V1 ⟨⟨X,rfl,x1,x2⟩,m⟩
 replace H:=U0 (H.out.go hB m)
 clear m;go_wp2;go_ret;exact ⟨⟨X,rfl,O0,O0⟩,H.out.fin (by decide)⟩
theorem c9 (A B:Nat) (b:Bs) (q:Ba) (w:World) (hB:B<=w.heap.size) (hl:Gj b 1048576) (ho:BsO A B w b q):
 Calls prog 9 #[.agg (bsV b q).toArray,.int .i64 1] w fun e w'=>(∃ X:Int,e=.returned (.int .i64 X)/\0<=X)/\Md A B [9,133,145,205,3,105,185,107] w w':=by
 have a:=U0 ho;have n1:=hl.sl;have n2:=hl.ll;have n3:=hl.fl;have g:=hl.st.1.1;have n5:=hl.st.2.1;have n6:=hl.hl;have n7:=hl.rl;have f:=hl.nl;have d:=hl.jl;clear ho hl;go_enter func9,ntmps9
 go_upto_region 1 with fail
 have H:=U0 (Ut (A:=A) (B:=B) (w:=w) (t:=47) (cs:=bsV b q));generalize w.alloc (.cells (bsV b q).toArray 47)=V at*
 go_wp2_with (first | (refine U9 H.out.c rfl 37 _ rfl (j:=5) [vL q.sa b.sf.length q.sc,vL q.la b.lo.length q.lc] rfl rfl underlying37 rfl Y2 ?_) | (refine U8 H.out.c rfl _ _ rfl rfl rfl Y2 ?_))
 refine (c36 A B q.sa q.la b.sf.length q.sc b.lo.length q.lc 1 V (G7 hB H.out.md.size) O0 O0 n1 n2 (a.out.sf.md H.out.md) (a.out.lo.md H.out.md)).mono ?_;rintro e V1 ⟨rfl,m⟩
 replace H:=U0 (H.out.go hB m)
 clear m
 go_wp2_with (first | (refine U9 H.out.c rfl 40 _ rfl (j:=7) [vL q.fa b.fs.length q.fc] rfl rfl underlying40 rfl Y2 ?_) | (refine U8 H.out.c rfl _ _ rfl rfl rfl Y2 ?_))
 refine (c37 A B q.fa b.fs.length q.fc _ V1 (G7 hB H.out.md.size) O0 O0 n3 (a.out.fs.md H.out.md)).mono ?_;rintro e V1 ⟨rfl,m⟩
 replace H:=U0 (H.out.go hB m)
 clear m
 go_wp2_with (first | (refine U9 H.out.c rfl 43 _ rfl (j:=8) [vI b.s.wd,vL q.ta b.s.ts.length q.tc,vL q.ra b.s.rs.length q.rc] rfl rfl underlying43 rfl Y2 ?_) | (refine U8 H.out.c rfl _ _ rfl rfl rfl Y2 ?_))
 refine (c38 A B q.ta q.ra b.s.ts.length q.tc b.s.rs.length q.rc b.s.wd _ V1 (G7 hB H.out.md.size) O0 O0 g n5 (a.out.ts.md H.out.md) (a.out.rs.md H.out.md (by decide))).mono ?_;rintro e V1 ⟨⟨X,rfl,x1,x2⟩,m⟩
 replace H:=U0 (H.out.go hB m)
 clear m
 go_wp2_with (refine U8 H.out.c rfl _ _ rfl rfl rfl Y2 ?_)
 refine (a2G A B q.ha b.hd.length q.hc _ V1 O0 O0 n6 (a.out.hd.md H.out.md)).mono ?_;rintro e V1 ⟨rfl,m⟩
 replace H:=U0 (H.out.go hB m)
 clear m
 go_wp2_with (refine U8 H.out.c rfl _ _ rfl rfl rfl Y2 ?_)
 refine (NU A B q.oa b.rt.length q.oc _ V1 O0 O0 n7 (a.out.rt.md H.out.md)).mono ?_;rintro e V1 ⟨rfl,m⟩
 replace H:=U0 (H.out.go hB m)
 clear m
 go_wp2_with (refine U8 H.out.c rfl _ _ rfl rfl rfl Y2 ?_)
 refine (c41 A B q.na b.rn.length q.nc _ V1 O0 O0 f (a.out.rn.md H.out.md (by decide))).mono ?_;rintro e V1 ⟨⟨Y,rfl,y1,y2⟩,m⟩
 replace H:=U0 (H.out.go hB m)
 clear m
 go_wp2_with (refine U8 H.out.c rfl _ _ rfl rfl rfl Y2 ?_)
 refine (c42 A B q.ja b.jb.length q.jc _ V1 O0 O0 d (a.out.jb.md H.out.md)).mono ?_;rintro e V1 ⟨rfl,m⟩
 replace H:=U0 (H.out.go hB m)
 clear m;go_wp2;go_ret;exact ⟨⟨_,rfl,O0⟩,H.out.fin (by decide)⟩
def Ip (wd now:Int) (S:LB) (H:List Int):Bs:=⟨wd,false,now,0,0,S,[],[],⟨0,[],[]⟩,H,[],[],[]⟩
def qF (sa:OA) (sc:Nat) (ha:OA) (hc:Nat):Ba:=⟨sa,sc,none,0,none,0,none,0,none,0,ha,hc,none,0,none,0,none,0⟩
/-- A row of one's own, or nothing. -/
def Rz (A B:Nat) (w:World) (t:TypeId) (v:Value) (n:Nat):Prop:=(v=.slice none 0 0/\n=0)\/∃ g cp xs,v=.slice (some ⟨g,0,none⟩) n cp/\A<=g/\g<B/\Cl w g t xs/\n<=xs.length
/-- Such a row, marked. -/
def Mv (w:World) (t:TypeId) (f:Int->Value) (K:Int) (v:Value) (n:Nat):Prop:=(v=.slice none 0 0/\n=0)\/∃ g cp,v=.slice (some ⟨g,0,none⟩) n cp/\QT w g t f K n
section
variable {A B A' B' n:Nat} {w w':World} {t:TypeId} {v:Value} {f:Int->Value} {K:Int} {S:List TypeId}
theorem Mv.md (h:Mv w t f K v n) (k:Md A B S w w') (ht:t∉S):Mv w' t f K v n:=h.imp id fun ⟨g,a,e,m⟩=>⟨g,a,e,m.keep (by obtain ⟨ys,c,_⟩:=m;exact k.ty g t ys c ht)⟩
theorem Mv.below (h:Mv w t f K v n) (k:Bw w w'):Mv w' t f K v n:=h.md (Md.of (A:=0) (B:=0) (S:=[]) k) Sm
theorem Rz.md (h:Rz A B w t v n) (k:Md A' B' S w w'):Rz A B w' t v n:=h.imp id fun ⟨g,a,xs,e,h1,h2,c,hl⟩=>by
 obtain ⟨ys,l,b⟩:=k.sh g t xs c;exact ⟨g,a,ys,e,h1,h2,b,by omega⟩
end
theorem a2d (A B:Nat) (v:Value) (n:Nat) (K:Int) (w:World) (h1:1<=K) (h2:K<=90000000000000) (b:n<=1048576) (ho:Rz A B w 9 v n):
 Calls prog 40 #[v,.int .i64 K] w fun e w'=>(e=.returned (.int .i64 (K+(n:Int)))/\Mv w' 9 mT K v n)/\Md A B [9] w w':=by
 rcases ho with ⟨rfl,rfl⟩ | ⟨g,a,xs,rfl,i,f,d,c⟩
 · refine (LV K w).mono ?_;rintro e w' ⟨rfl,h⟩;exact ⟨⟨by simp,.inl ⟨rfl,rfl⟩⟩,h▸Md.refl⟩
 exact (c40 A B g a n K w 9 xs h1 h2 b i f d c).mono fun e w' h=>⟨⟨h.1,.inr ⟨g,a,rfl,h.2.2⟩⟩,h.2.1⟩
theorem a3a (A B:Nat) (v:Value) (n:Nat) (K:Int) (w:World) (h1:1<=K) (h2:K<=90000000000000) (b:n<=1048576) (ho:Rz A B w 3 v n):
 Calls prog 39 #[v,.int .i64 K] w fun e w'=>(e=.returned (.int .i64 (K+(n:Int)))/\Mv w' 3 mI K v n)/\Md A B [3] w w':=by
 rcases ho with ⟨rfl,rfl⟩ | ⟨g,a,xs,rfl,i,f,d,c⟩
 · refine (a2n K w).mono ?_;rintro e w' ⟨rfl,h⟩;exact ⟨⟨by simp,.inl ⟨rfl,rfl⟩⟩,h▸Md.refl⟩
 exact (c39 A B g a n K w 3 xs h1 h2 b i f d c).mono fun e w' h=>⟨⟨h.1,.inr ⟨g,a,rfl,h.2.2⟩⟩,h.2.1⟩
theorem a3x (v:Value) (n:Nat) (K:Int) (w:World) (h1:1<=K) (h2:K<=90000000000000) (a:n<=1048576) (ho:Mv w 9 mT K v n):
 Calls prog 47 #[v,.int .i64 K] w fun e w'=>e=.returned (.int .i64 (K+(n:Int)))/\Bw w w':=by
 rcases ho with ⟨rfl,rfl⟩ | ⟨g,b,rfl,h⟩
 · refine (jW K w).mono ?_;rintro e w' ⟨rfl,h⟩;exact ⟨by simp,h▸Z4 _ _⟩
 exact c47 g b n K w 9 h1 h2 a h
theorem a2h (v:Value) (n:Nat) (K:Int) (w:World) (h1:1<=K) (h2:K<=90000000000000) (a:n<=1048576) (ho:Mv w 3 mI K v n):
 Calls prog 46 #[v,.int .i64 K] w fun e w'=>e=.returned (.int .i64 (K+(n:Int)))/\Bw w w':=by
 rcases ho with ⟨rfl,rfl⟩ | ⟨g,b,rfl,h⟩
 · refine (a3M K w).mono ?_;rintro e w' ⟨rfl,h⟩;exact ⟨by simp,h▸Z4 _ _⟩
 exact c46 g b n K w 3 h1 h2 a h
theorem a2s (K:Int) (w:World):Calls prog 37 #[.agg #[.slice none 0 0],.int .i64 K] w fun e w'=>e=.returned (.int .i64 K)/\Bw w w':=by
 go_enter func37,ntmps37
 go_wp2_with fail
 refine (a1Y K _).mono ?_;rintro e _ ⟨rfl,rfl⟩;go_wp2;go_ret;exact ⟨rfl,P6⟩
theorem a3K (K:Int) (w:World):Calls prog 38 #[.agg #[.int .i64 0,.slice none 0 0,.slice none 0 0],.int .i64 K] w fun e w'=>e=.returned (.int .i64 K)/\Bw w w':=by
 go_enter func38,ntmps38
 go_wp2_with fail
 refine (LV K _).mono ?_;rintro e _ ⟨rfl,rfl⟩
 go_wp2_with fail
 refine (a2P K _).mono ?_;rintro e _ ⟨rfl,rfl⟩;go_wp2;go_ret;exact ⟨rfl,P6⟩
theorem a2b (K:Int) (w:World) (h:¬ K<0):Calls prog 44 #[.agg #[.slice none 0 0],.int .i64 K] w fun e w'=>e=.returned (.int .i64 K)/\Bw w w':=by
 go_enter func44,ntmps44
 go_wp2_with fail
 refine (a3u K _).mono ?_;rintro e _ ⟨rfl,rfl⟩;go_wp2;go_ret;exact ⟨rfl,P6⟩
theorem a2R (K:Int) (w:World) (h:¬ K<0):Calls prog 45 #[.agg #[.int .i64 0,.slice none 0 0,.slice none 0 0],.int .i64 K] w fun e w'=>e=.returned (.int .i64 K)/\Bw w w':=by
 go_enter func45,ntmps45
 go_wp2_with fail
 refine (jW K _).mono ?_;rintro e _ ⟨rfl,rfl⟩
 go_wp2_with fail
 refine (a2S K _).mono ?_;rintro e _ ⟨rfl,rfl⟩;go_wp2;go_ret;exact ⟨rfl,P6⟩
theorem a3H (A B:Nat) (v:Value) (n:Nat) (w:World) (hB:B<=w.heap.size) (a:n<=1048576) (ho:Rz A B w 9 v n):
 Calls prog 36 #[.agg #[v,.slice none 0 0],.int .i64 1] w fun e w'=>(e=.returned (.int .i64 (1+(n:Int)))/\Mv w' 9 mT 1 v n)/\Md A B [9] w w':=by
 have d:=U0 ho;clear ho;go_enter func36,ntmps36
 go_upto_region 1 with fail
 have H:=U0 (Ut (A:=A) (B:=B) (w:=w) (t:=37) (cs:=[v,vN]));generalize w.alloc (.cells #[v,vN] 37)=V at*
 go_wp2_with (refine U8 H.out.c rfl _ _ rfl rfl rfl Y2 ?_)
 refine (a2d A B v n 1 V O0 O0 a (d.out.md H.out.md)).mono ?_;rintro e V1 ⟨⟨rfl,hv⟩,m⟩;have b:=U0 hv
 replace H:=U0 (H.out.go hB m)
 clear m hv
 go_wp2_with (refine U8 H.out.c rfl _ _ rfl rfl rfl Y2 ?_)
 refine (LV _ V1).mono ?_;rintro e w1 ⟨rfl,hw⟩;subst hw;go_wp2;go_ret;exact ⟨⟨rfl,b.out⟩,H.out.fin (by simp)⟩
theorem a3s (v:Value) (n:Nat) (w:World) (c:n<=1048576) (ho:Mv w 9 mT 1 v n):
 Calls prog 43 #[.agg #[v,.slice none 0 0],.int .i64 1] w fun e w'=>e=.returned (.int .i64 (1+(n:Int)))/\Bw w w':=by
 have d:=U0 ho;have hp:¬ 1+(n:Int)<0:=O0;clear ho;go_enter func43,ntmps43
 go_upto_region 1 with fail
 have C:=U0 (Y4 w [v,vN] 37);have a:=U0 (P6 (w:=w) (o:=.cells #[v,vN] 37));generalize w.alloc (.cells #[v,vN] 37)=V at*
 go_wp2_with (refine U8 C.out rfl _ _ rfl rfl rfl Y2 ?_)
 refine (a3x v n 1 V O0 O0 c (d.out.below a.out)).mono ?_;rintro e V1 ⟨rfl,b⟩
 replace C:=U0 (C.out.below b C.out.lt)
 replace a:=U0 (X5 a.out b)
 clear b
 go_wp2_with (refine U8 C.out rfl _ _ rfl rfl rfl Y2 ?_)
 refine (jW _ V1).mono ?_;rintro e w1 ⟨rfl,hw⟩;subst hw;go_wp2;go_ret;exact ⟨rfl,a.out⟩
end Go.Proofs.YtchjpjmcnhjbcaaGreatDoor
namespace Go.Proofs.YtchjpjmcnhjbcaaGreatDoor
open Proofs.Tryz Go.RowKit
theorem c9s (A B:Nat) (wd now:Int) (S:LB) (Hd:List Int) (sa ha:OA) (sc hc:Nat) (w:World) (hB:B<=w.heap.size) (h:S.length<=1048576) (hm:Hd.length<=1048576) (ho:Rz A B w 9 (.slice sa S.length sc) S.length) (g:Rz A B w 3 (.slice ha Hd.length hc) Hd.length):
 Calls prog 9 #[.agg (bsV (Ip wd now S Hd) (qF sa sc ha hc)).toArray,.int .i64 1] w fun e w'=>(e=.returned (.int .i64 (1+(S.length:Int)+(Hd.length:Int)))/\Mv w' 9 mT 1 (.slice sa S.length sc) S.length/\Mv w' 3 mI (1+(S.length:Int)) (.slice ha Hd.length hc) Hd.length)/\Md A B [9,3] w w':=by
 have n:=U0 ho;have o:=U0 g;clear ho g;go_enter func9,ntmps9
 go_upto_region 1 with fail
 have H:=U0 (Ut (A:=A) (B:=B) (w:=w) (t:=47) (cs:=bsV (Ip wd now S Hd) (qF sa sc ha hc)));generalize w.alloc (.cells (bsV (Ip wd now S Hd) (qF sa sc ha hc)).toArray 47)=V at*
 go_wp2_with (first | (refine U9 H.out.c rfl 37 _ rfl (j:=5) [vL sa S.length sc,vN] rfl rfl underlying37 rfl Y2 ?_) | (refine U8 H.out.c rfl _ _ rfl rfl rfl Y2 ?_))
 refine (a3H A B _ S.length V (G7 hB H.out.md.size) h (n.out.md H.out.md)).mono ?_;rintro e V1 ⟨⟨rfl,hv⟩,m⟩;have b:=U0 hv
 replace H:=U0 (H.out.go hB m)
 clear m hv
 go_wp2_with (first | (refine U9 H.out.c rfl 40 _ rfl (j:=7) [vN] rfl rfl underlying40 rfl Y2 ?_) | (refine U8 H.out.c rfl _ _ rfl rfl rfl Y2 ?_))
 refine (a2s _ V1).mono ?_;rintro e k ⟨rfl,a⟩
 replace H:=U0 (H.out.go hB (Md.of (S:=[]) a))
 replace b:=U0 (b.out.below a)
 clear a
 go_wp2_with (first | (refine U9 H.out.c rfl 43 _ rfl (j:=8) [vO,vN,vN] rfl rfl underlying43 rfl Y2 ?_) | (refine U8 H.out.c rfl _ _ rfl rfl rfl Y2 ?_))
 refine (a3K _ k).mono ?_;rintro e i ⟨rfl,a⟩
 replace H:=U0 (H.out.go hB (Md.of (S:=[]) a))
 replace b:=U0 (b.out.below a)
 clear a
 go_wp2_with (refine U8 H.out.c rfl _ _ rfl rfl rfl Y2 ?_)
 refine (a3a A B _ Hd.length _ i O0 O0 hm (o.out.md H.out.md)).mono ?_;rintro e f ⟨⟨rfl,hv⟩,m⟩;have l:=U0 hv
 replace b:=U0 (b.out.md m (by decide))
 replace H:=U0 (H.out.go hB m)
 clear m hv
 go_wp2_with (refine U8 H.out.c rfl _ _ rfl rfl rfl Y2 ?_)
 refine (LV _ f).mono ?_;rintro e d ⟨rfl,hw⟩;subst d
 go_wp2_with (refine U8 H.out.c rfl _ _ rfl rfl rfl Y2 ?_)
 refine (a4d _ f).mono ?_;rintro e d ⟨rfl,hw⟩;subst d
 go_wp2_with (refine U8 H.out.c rfl _ _ rfl rfl rfl Y2 ?_)
 refine (a3m _ f).mono ?_;rintro e d ⟨rfl,hw⟩;subst d;go_wp2;go_ret;exact ⟨⟨rfl,b.out,l.out⟩,H.out.fin (by decide)⟩
theorem a0L (wd now:Int) (S:LB) (Hd:List Int) (sa ha:OA) (sc hc:Nat) (w:World) (g:S.length<=1048576) (hm:Hd.length<=1048576) (ho:Mv w 9 mT 1 (.slice sa S.length sc) S.length) (f:Mv w 3 mI (1+(S.length:Int)) (.slice ha Hd.length hc) Hd.length):
 Calls prog 10 #[.agg (bsV (Ip wd now S Hd) (qF sa sc ha hc)).toArray,.int .i64 1] w fun e w'=>e=.returned (.int .i64 (1+(S.length:Int)+(Hd.length:Int)))/\Bw w w':=by
 have k:=U0 ho;have l:=U0 f;have hp:¬ 1+(S.length:Int)<0:=O0;have hp2:¬ 1+(S.length:Int)+(Hd.length:Int)<0:=O0;clear ho f;go_enter func10,ntmps10
 go_upto_region 1 with fail
 have C:=U0 (Y4 w (bsV (Ip wd now S Hd) (qF sa sc ha hc)) 47);have b:=U0 (P6 (w:=w) (o:=.cells (bsV (Ip wd now S Hd) (qF sa sc ha hc)).toArray 47));generalize w.alloc (.cells (bsV (Ip wd now S Hd) (qF sa sc ha hc)).toArray 47)=V at*
 go_wp2_with (first | (refine U9 C.out rfl 37 _ rfl (j:=5) [vL sa S.length sc,vN] rfl rfl underlying37 rfl Y2 ?_) | (refine U8 C.out rfl _ _ rfl rfl rfl Y2 ?_))
 refine (a3s _ S.length V g (k.out.below b.out)).mono ?_;rintro e V1 ⟨rfl,a⟩
 replace C:=U0 (C.out.below a C.out.lt)
 replace b:=U0 (X5 b.out a)
 clear a
 go_wp2_with (first | (refine U9 C.out rfl 40 _ rfl (j:=7) [vN] rfl rfl underlying40 rfl Y2 ?_) | (refine U8 C.out rfl _ _ rfl rfl rfl Y2 ?_))
 refine (a2b (1+(S.length:Int)) V1 O0).mono ?_;rintro e i ⟨rfl,a⟩
 replace C:=U0 (C.out.below a C.out.lt)
 replace b:=U0 (X5 b.out a)
 clear a
 go_wp2_with (first | (refine U9 C.out rfl 43 _ rfl (j:=8) [vO,vN,vN] rfl rfl underlying43 rfl Y2 ?_) | (refine U8 C.out rfl _ _ rfl rfl rfl Y2 ?_))
 refine (a2R (1+(S.length:Int)) i O0).mono ?_;rintro e h ⟨rfl,a⟩
 replace C:=U0 (C.out.below a C.out.lt)
 replace b:=U0 (X5 b.out a)
 clear a
 go_wp2_with (refine U8 C.out rfl _ _ rfl rfl rfl Y2 ?_)
 refine (a2h _ Hd.length _ h O0 O0 hm (l.out.below b.out)).mono ?_;rintro e d ⟨rfl,a⟩
 replace C:=U0 (C.out.below a C.out.lt)
 replace b:=U0 (X5 b.out a)
 clear a
 go_wp2_with (refine U8 C.out rfl _ _ rfl rfl rfl Y2 ?_)
 refine (jW _ d).mono ?_;rintro e c ⟨rfl,hw⟩;subst c
 go_wp2_with (refine U8 C.out rfl _ _ rfl rfl rfl Y2 ?_)
 refine (a2B _ d).mono ?_;rintro e c ⟨rfl,hw⟩;subst c
 go_wp2_with (refine U8 C.out rfl _ _ rfl rfl rfl Y2 ?_)
 refine (a1S _ d).mono ?_;rintro e c ⟨rfl,hw⟩;subst c;go_wp2;go_ret;exact ⟨rfl,b.out⟩
