import Derived.Test.YtchjpjmcnhjbcaaGreatDoorvN
set_option linter.unusedVariables false
set_option maxHeartbeats 8000000
set_option maxRecDepth 100000
namespace Go.Proofs.YtchjpjmcnhjbcaaGreatDoor
open Proofs.Tryz Go.RowKit
theorem c162 (a c:List R3) (l g:OA) (p o:Nat) (w:World) (hl:a.length<=1048576) (hl':c.length<=1048576) (hx:∀ i,(a.getD i f_).gs.length<=1048576) (v:∀ i,(c.getD i f_).gs.length<=1048576) (D:ug w l a) (C:ug w g c):
 Calls prog 162 #[.slice l a.length p,.slice g c.length o,.func (.func 163) #[] #[]] w fun e w'=>Rb (a=c) e/\Bw w w':=by
 have S:=U0 hx;have R:=U0 v;clear hx v;by_cases d:a.length=c.length;rotate_left
 · have s:Hid (¬ a=c):=fun h=>d (by rw [h]);have hn1:¬ (a.length:Int)=c.length:=O0;go_enter func162,ntmps162;go_wp2;go_ret;exact ⟨G5 s.out,Z4 _ _⟩
 rw [<- d];have t:=U0 d;obtain ⟨b,off,hc⟩:=Ie D;obtain ⟨b',off',z⟩:=Ie C;have HC:=U0 hc;have HC':=U0 z;clear hc z D C d;go_enter func162,ntmps162
 go_wp2_with fail
 go_loopw [17] (fun i wr=>∃ (k:Nat),k<=a.length/\i=.int .i64 k/\Hid (∀ j,j<k->a.getD j f_=c.getD j f_)/\Below w.heap.size w wr) (fun i _=>a.length - (RowKit.intOf i).toNat)
 case atStart=>exact ⟨0,J4 _,rfl,fun j h=>absurd h (J8 _),Z4 _ _⟩
 case round=>
  obtain ⟨k,hk2,rfl,hd,f⟩:=hrel;by_cases m:k<a.length;rotate_left
  · obtain rfl:k=a.length:=O0;have V:=U0 (Wn t.out hd.out);go_wp2;go_ret;exact ⟨u_ V.out,f⟩
  obtain ⟨ha,O,y⟩:=Cc HC.out m;rcases HC'.out with N | ⟨P,A,x⟩
  · have d:=t.out;rw [N] at d;rw [d] at m;exact absurd m (J8 _)
  subst ha;subst P;have a4s:=O9 A f.size;obtain ⟨l,p,g0,g1,g2,g3⟩:=(y k m).below O f;obtain ⟨g,o,J,I,H,u⟩:=(x k (by have:=t.out;omega)).below A f;have G3:=U0 g3;have U:=U0 u;have L:=S.out k;have K:=R.out k;have HD:Hid (a.getD k f_=c.getD k f_->∀ j,j<k+1->a.getD j f_=c.getD j f_):=fun r j hj=>by
   rcases Q7 j k with h | h
   · exact hd.out j h
   · obtain rfl:j=k:=O0;exact r
  have s:Hid (¬ a.getD k f_=c.getD k f_->¬ a=c):=fun r h=>r (by rw [h]);have E:=U0 f;clear y x g3 u hd f;generalize a.getD k f_=X at*;generalize c.getD k f_=Y at*;have q:Hid (Bw wr ((wr.alloc (.cells #[vS X.key,vL l X.gs.length p,vS X.out] 145)).alloc (.cells #[vS Y.key,vL g Y.gs.length o,vS Y.out] 145))):=P6.alloc X4 _
  go_wp2_with fail
  refine (a0n X Y l g p o _ L K (P8 G3.out q.out) (P8 U.out q.out)).mono ?_;rintro e w1 ⟨⟨Q,rfl,n⟩,B⟩;have F:=U0 (X5 (X5 E.out q.out) B);clear B q E g0 g1 g2 J I H
  cases Q with
  | true=>
   have Z:=U0 (HD.out (n.1 rfl));clear n;go_wp2;go_roundw
   case rel=>exact ⟨k+1,O0,by go_num,Z,F.out⟩
   case measure=>simp [RowKit.intOf];omega
  | false=>
   have W:=U0 (s.out (fun h=>by have:=n.2 h;cases this));clear n;go_wp2;go_ret;exact ⟨G5 W.out,F.out⟩
theorem a1I (x y:St) (ta ra a rb:OA) (tc rc b rd:Nat) (w:World) (hx:x.ts.length<=1048576/\x.rs.length<=1048576/\∀ i,(x.rs.getD i f_).gs.length<=1048576) (q:y.ts.length<=1048576/\y.rs.length<=1048576/\∀ i,(y.rs.getD i f_).gs.length<=1048576) (t:Ig w ta ra x) (s:Ig w a rb y):
 Calls prog 113 #[.agg #[.int .i64 x.wd,.slice ta x.ts.length tc,.slice ra x.rs.length rc],.agg #[.int .i64 y.wd,.slice a y.ts.length b,.slice rb y.rs.length rd]] w fun e w'=>Rb (x=y) e/\Bw w w':=by
 have X:=U0 hx;have Y:=U0 q;have B:=U0 t;have A:=U0 s;clear hx q t s;go_enter func113,ntmps113
 go_upto_region 1 with fail
 have f:=U0 (G9 (Y4 w [vI x.wd,vL ta x.ts.length tc,vL ra x.rs.length rc] 43) (.cells #[vI y.wd,vL a y.ts.length b,vL rb y.rs.length rd] 43));have d:Hid (Cl ((w.alloc (.cells #[vI x.wd,vL ta x.ts.length tc,vL ra x.rs.length rc] 43)).alloc (.cells #[vI y.wd,vL a y.ts.length b,vL rb y.rs.length rd] 43)) (w.heap.size+1) 43 [vI y.wd,vL a y.ts.length b,vL rb y.rs.length rd]):=by show Cl _ _ _ _;have h:=Y4 (w.alloc (.cells #[vI x.wd,vL ta x.ts.length tc,vL ra x.rs.length rc] 43)) [vI y.wd,vL a y.ts.length b,vL rb y.rs.length rd] 43;simpa using h
 have l:Hid (Bw w ((w.alloc (.cells #[vI x.wd,vL ta x.ts.length tc,vL ra x.rs.length rc] 43)).alloc (.cells #[vI y.wd,vL a y.ts.length b,vL rb y.rs.length rd] 43))):=P6.alloc X4 _;generalize (w.alloc (.cells #[vI x.wd,vL ta x.ts.length tc,vL ra x.rs.length rc] 43)).alloc (.cells #[vI y.wd,vL a y.ts.length b,vL rb y.rs.length rd] 43)=V at*;have z:=f.out.cell 0;have m:=d.out.cell 0;have v:=f.out.cell 1;have u:=d.out.cell 1;have a2:=f.out.cell 2;have j:=d.out.cell 2;simp only [@gz Value] at z m v u a2 j;by_cases hw:x.wd=y.wd;rotate_left
 · have o:Hid (¬ x=y):=fun h=>hw (by rw [h]);go_wp2;go_ret;exact ⟨G5 o.out,l.out⟩
 have D:=U0 hw;rw [<- hw] at m;clear hw
 go_wp2_with fail
 refine (a2O x.ts y.ts ta a tc b V X.out.1 Y.out.1 (U5 B.out.1 l.out) (U5 A.out.1 l.out)).mono ?_;rintro e C ⟨⟨n,rfl,c⟩,g⟩
 replace a2:=(g.cell (p:=(aW w 2)) f.out.lt).trans a2
 replace j:=(g.cell (p:=(aA (w.heap.size+1) 2)) d.out.lt).trans j
 have k:=U0 (X5 l.out g);clear g z v m u f d
 cases n with
 | false=>
  have o:Hid (¬ x=y):=fun h=>by have:=c.2 (by rw [h]);cases this
  clear c;go_wp2;go_ret;exact ⟨G5 o.out,k.out⟩
 | true=>
 have E:=U0 (c.1 rfl);clear c
 go_wp2_with fail
 refine (c162 x.rs y.rs ra rb rc rd C X.out.2.1 Y.out.2.1 X.out.2.2 Y.out.2.2 (dh B.out.2 k.out) (dh A.out.2 k.out)).mono ?_;rintro e w2 ⟨⟨n,rfl,c⟩,r⟩;have H:=U0 (X5 k.out r);have F:Hid (n=true↔x=y):=by
  have h1:=D.out;have h2:=E.out;obtain ⟨_,_,_⟩:=x;obtain ⟨_,_,_⟩:=y;dsimp only at h1 h2 c;subst h1 h2;exact c.trans ⟨fun h=>by rw [h],fun h=>by injection h⟩
 clear c r a2 j;go_wp2;go_ret;exact ⟨⟨_,rfl,F.out⟩,H.out⟩
theorem a3J (x:Rn) (c:OA) (b:Nat) (w:World):
 Calls prog 102 #[.agg #[.string x.nm,.int .i64 x.md,.string x.wt,.slice c x.ls.length b,.int .i64 x.cd,.string x.tx]] w fun e w'=>Rb (x.md=1/\x.wt=⟨#[]⟩) e/\Bw w w':=by
 go_enter func102,ntmps102
 go_upto_region 1 with fail
 have g:=U0 (Y4 w [vS x.nm,vI x.md,vS x.wt,vL c x.ls.length b,vI x.cd,vS x.tx] 105);have d:=U0 (P6 (w:=w) (o:=.cells #[vS x.nm,vI x.md,vS x.wt,vL c x.ls.length b,vI x.cd,vS x.tx] 105));generalize w.alloc (.cells #[vS x.nm,vI x.md,vS x.wt,vL c x.ls.length b,vI x.cd,vS x.tx] 105)=V at*;have f:=g.out.cell 1;have a2:=g.out.cell 2;simp only [@gz Value] at f a2;by_cases h1:x.md=1;rotate_left
 · have a:Hid (¬ (x.md=1/\x.wt=⟨#[]⟩)):=fun h=>h1 h.1;go_wp2;go_ret;exact ⟨G5 a.out,d.out⟩
 rw [h1] at f;by_cases h2:x.wt=⟨#[]⟩
 · have i:Hid (x.md=1/\x.wt=⟨#[]⟩):=⟨h1,h2⟩;rw [h2] at a2;go_wp2;go_ret;exact ⟨u_ i.out,d.out⟩
 have a:Hid (¬ (x.md=1/\x.wt=⟨#[]⟩)):=fun h=>h2 h.2;have z:=Qe h2;go_wp2;go_ret;exact ⟨by first | exact G5 a.out | (rw [z];exact G5 a.out) | (simp only [z];exact G5 a.out),d.out⟩
def AtR (rn:List Rn) (nm:BY) (r:Int):Prop:=(r= -1/\∀ i,i<rn.length->(rn.getD i X_).nm≠nm)\/∃ i:Nat,r=i/\i<rn.length/\(rn.getD i X_).nm=nm/\∀ j,j<i->(rn.getD j X_).nm≠nm
theorem a1R (b:Bs) (q:Ba) (nm:BY) (w:World) (hl:b.rn.length<=1048576) (l:Aj w q.na b.rn):
 Calls prog 101 #[.agg (bsV b q).toArray,.string nm] w fun e w'=>(∃ r,e=.returned (.int .i64 r)/\AtR b.rn nm r)/\Bw w w':=by
 obtain ⟨s,off,hc⟩:=N_ l;have x:=U0 hc;clear l hc;go_enter func101,ntmps101
 go_upto_region 1 with fail
 have y:=U0 (Y4 w (bsV b q) 47);have d:=U0 (P6 (w:=w) (o:=.cells (bsV b q).toArray 47));generalize w.alloc (.cells (bsV b q).toArray 47)=V at*;have m:=y.out.cell 13;simp only [@gz Value] at m
 go_wp2_with fail
 go_loop [5] (fun i=>∃ k:Nat,k<=b.rn.length/\i=.int .i64 k/\Hid (∀ j,j<k->(b.rn.getD j X_).nm≠nm)) (fun i=>b.rn.length - (RowKit.intOf i).toNat)
 case atStart=>exact ⟨0,J4 _,rfl,fun j h=>absurd h (J8 _)⟩
 case round=>
  obtain ⟨k,hk,rfl,hd⟩:=hrel;by_cases a:k<b.rn.length;rotate_left
  · obtain rfl:k=b.rn.length:=O0;have c:Hid (AtR b.rn nm (-1)):=.inl ⟨rfl,hd.out⟩;go_wp2;go_ret;exact ⟨⟨_,rfl,c.out⟩,d.out⟩
  obtain ⟨ha,p,f⟩:=Cc x.out a;have g0:V.cell? (aA s (off+k*6))=some (vS (b.rn.getD k X_).nm):=by
   obtain ⟨_,_,g,_⟩:=(f k a).below p d.out;exact g 0 _ rfl
  rw [ha] at m;have c:Hid ((b.rn.getD k X_).nm=nm->AtR b.rn nm k):=fun h=>.inr ⟨k,rfl,a,h,hd.out⟩;have v:Hid ((b.rn.getD k X_).nm≠nm->∀ j,j<k+1->(b.rn.getD j X_).nm≠nm):=fun n j hj=>by
   rcases Q7 j k with h | h
   · exact hd.out j h
   · obtain rfl:j=k:=O0;exact n
  generalize (b.rn.getD k X_).nm=X at*;clear f hd ha;by_cases hx:X=nm
  · have t:=U0 (c.out hx);have z:(X.toList==nm.toList)=true:=by rw [hx];exact beq_self_eq_true _
    go_wp2;go_ret;exact ⟨⟨_,rfl,t.out⟩,d.out⟩
  have u:=U0 (v.out hx);have z:=p_.2 (Ub hx);go_wp2
  go_round
  case rel=>exact ⟨k+1,O0,by go_num,u⟩
  case measure=>simp [RowKit.intOf];omega
def iC (b:Bs):Prop:=(∀ i,i<b.hd.length->b.hd.getD i 0= -1)/\b.ep=0/\b.ed=0/\b.fs=[]/\b.s=⟨0,[],[]⟩/\b.rt=[]/\b.rn=[]/\b.jb=[]
theorem mX {s:St} (h:s.le 1048576):s.ts.length<=1048576/\s.rs.length<=1048576/\∀ i,(s.rs.getD i f_).gs.length<=1048576:=⟨h.1.1,h.2.1,fun i=>(h.2.2 i).2.1⟩
theorem a0m:(⟨0,[],[]⟩:St).ts.length<=1048576/\(⟨0,[],[]⟩:St).rs.length<=1048576/\∀ i,((⟨0,[],[]⟩:St).rs.getD i f_).gs.length<=1048576:=⟨o6,o6,fun i=>by show (0:Nat)<=_;omega⟩
theorem UO {w:World} {g n:Nat} (h:Cl w g 3 (List.replicate n (.int .i64 (-1)))):Ye w (some ⟨g,0,none⟩) (List.replicate n (-1)):=.inr ⟨g,0,rfl,h.lt,fun i a=>by
 rw [L8,h.cell i];simp at a;simp [List.getD,a]⟩
theorem jL {l:List Int}:l=List.replicate l.length (-1)↔∀ i,i<l.length->l.getD i 0= -1:=by
 constructor
 · intro h i b;rw [h];simp [List.getD,b]
 · intro h;refine Wn (d:=0) X4 fun j a=>?_;rw [h j a];simp [List.getD,a]
theorem c72 (b:Bs) (q:Ba) (w:World) (hl:Gj b 1048576) (hn:1<=b.hd.length/\b.hd.length<=4) (Q:Oh w b q):
 Calls prog 72 #[.agg (bsV b q).toArray] w fun e w'=>Rb (iC b) e/\Bw w w':=by
 have X:=U0 Q;have L:=U0 hl;clear Q hl;go_enter func72,ntmps72
 go_upto_region 1 with fail
 have c:=U0 (Y4 w (bsV b q) 47);have k:=U0 (P6 (w:=w) (o:=.cells (bsV b q).toArray 47));generalize w.alloc (.cells (bsV b q).toArray 47)=V at*;have I:=c.out.cell 3;have H:=c.out.cell 4;have F:=c.out.cell 7;have U:=c.out.cell 8;have R:=c.out.cell 9;have W:=c.out.cell 10;have r:=c.out.cell 11;have p:=c.out.cell 12;have n:=c.out.cell 13;have m:=c.out.cell 14;simp only [@gz Value] at I H F U R W r p n m;by_cases h1:b.ep=0;rotate_left
 · have a:Hid (¬ iC b):=fun h=>h1 h.2.1
   go_wp2_with fail
   go_region
   all_goals go_wp2
   all_goals go_ret
   all_goals exact ⟨G5 a.out,(k.out).drew⟩
 by_cases h2:b.ed=0;rotate_left
 · have a:Hid (¬ iC b):=fun h=>h2 h.2.2.1
   go_wp2_with fail
   go_region
   all_goals go_wp2
   all_goals go_ret
   all_goals exact ⟨G5 a.out,(k.out).drew⟩
 by_cases D:b.fs.length=0;rotate_left
 · have a:Hid (¬ iC b):=fun h=>D (by rw [h.2.2.2.1];rfl);have z:¬ ((b.fs.length:Int)=0):=O0
   go_wp2_with fail
   go_region
   all_goals go_wp2
   all_goals go_ret
   all_goals exact ⟨G5 a.out,(k.out).drew⟩
 rw [h1] at I;rw [h2] at H;rw [D] at F
 go_wp2_with fail
 refine (a1I b.s ⟨0,[],[]⟩ q.ta q.ra none none q.tc q.rc 0 0 V (mX L.out.st) a0m (X.out.st.below k.out) ⟨.inl rfl,.inl rfl⟩).mono ?_;rintro e w1 ⟨⟨E,rfl,d⟩,y⟩;have f:=U0 (c.out.below y c.out.lt);have j:=U0 (X5 k.out y);clear y I H F U R W r p n m c k;have r:=f.out.cell 11;have p:=f.out.cell 12;have n:=f.out.cell 13;have m:=f.out.cell 14;simp only [@gz Value] at r p n m
 cases E with
 | false=>
  have a:Hid (¬ iC b):=fun h=>by have:=d.2 h.2.2.2.2.1;cases this
  clear d
  go_wp2_with fail
  go_region
  all_goals go_wp2
  all_goals go_ret
  all_goals exact ⟨G5 a.out,(j.out).drew⟩
 | true=>
 have HT:=U0 (d.1 rfl);clear d;by_cases C:b.rt.length=0;rotate_left
 · have a:Hid (¬ iC b):=fun h=>C (by rw [h.2.2.2.2.2.1];rfl);have z:¬ ((b.rt.length:Int)=0):=O0
   go_wp2_with fail
   go_region
   all_goals go_wp2
   all_goals go_ret
   all_goals exact ⟨G5 a.out,(j.out).drew⟩
 by_cases B:b.rn.length=0;rotate_left
 · have a:Hid (¬ iC b):=fun h=>B (by rw [h.2.2.2.2.2.2.1];rfl);have z:¬ ((b.rn.length:Int)=0):=O0
   go_wp2_with fail
   go_region
   all_goals go_wp2
   all_goals go_ret
   all_goals exact ⟨G5 a.out,(j.out).drew⟩
 by_cases A:b.jb.length=0;rotate_left
 · have a:Hid (¬ iC b):=fun h=>A (by rw [h.2.2.2.2.2.2.2];rfl);have z:¬ ((b.jb.length:Int)=0):=O0
   go_upto_region 2 with fail
   rw [show ((b.jb.length:Int)==0)=false from p_.2 z]
   go_wp2_with fail
   go_region
   all_goals go_wp2
   all_goals go_ret
   all_goals exact ⟨G5 a.out,(j.out).drew⟩
 rw [C] at p;rw [B] at n;rw [A] at m;have HD:Hid ((∀ i,i<b.hd.length->b.hd.getD i 0= -1)->iC b):=fun h=>⟨h,h1,h2,Va.1 D,HT.out,Va.1 C,Va.1 B,Va.1 A⟩;have J:=U0 (f.out.below (Z4 _ _).drew f.out.lt);have HXL:=U0 f.out.lt;clear r
 go_wp2_with fail
 refine wp_region_held_drew (S:=fun u=>u.cell? (aW w 11)=some (vL q.ha b.hd.length q.hc)) Y2 (J.out.cell 11) fun hH=>?_;refine Y0 0 ?_;refine Y0 1 ?_;refine Y0 2 ?_;refine Y0 3 ?_;refine Y0 4 ?_;refine Y0 5 ?_;refine Y0 6 ?_;refine rq 7 fun K l=>?_;go_simp;refine (c79 b.hd.length w1.drew hn).mono ?_;rintro e Z ⟨⟨g,rfl,_,P⟩,x⟩;have Y:=U0 ((j.out.drew).trans (x.mono j.out.size));have HI:=U0 (UO P);have N:=U0 (J.out.below x J.out.lt);clear P x
 go_wp2_with fail
 refine E8 l (N.out.cell 11) fun hH=>?_;clear l K;refine rq 8 fun K l=>?_;go_simp;have O:(List.replicate b.hd.length (-1:Int)).length=b.hd.length:=Uy;have t:=a2E b.hd (List.replicate b.hd.length (-1)) q.ha (some (aA g 0)) q.hc b.hd.length Z L.out.hl (by rw [O];exact L.out.hl) (oh X.out.hd Y.out) HI.out;rw [O] at t;refine t.mono ?_;rintro e w3 ⟨⟨E,rfl,d⟩,v⟩;have B3:=U0 (X5 Y.out v);have HE:Hid (E=true↔iC b):=⟨fun h=>HD.out (jL.1 (d.1 h)),fun h=>d.2 (jL.2 h.1)⟩;have CY:=U0 (N.out.below v N.out.lt);clear d v t
 go_wp2_with fail
 refine E8 l (CY.out.cell 11) fun hH=>?_;clear l K;refine Y0 9 ?_;refine Y0 10 ?_;refine wdn ?_;go_wp2;go_ret;exact ⟨⟨_,rfl,HE.out⟩,B3.out⟩
theorem c58 (b:Bs) (q:Ba) (w:World) (hl:Gj b 1048576) (x:Oh w b q):
 Calls prog 58 #[.agg (bsV b q).toArray] w fun e w'=>Rb (iC b) e/\Bw w w':=by
 have W:=U0 x;have R:=U0 hl;have hhl:=hl.hl;have hrl:=hl.rl;have hnl:=hl.nl;have hjl:=hl.jl;obtain ⟨P,off,hc⟩:=ig x.hd;have U:=U0 hc;clear x hl hc;go_enter func58,ntmps58
 go_upto_region 1 with fail
 have a:=U0 (Y4 w (bsV b q) 47);have d:=U0 (P6 (w:=w) (o:=.cells (bsV b q).toArray 47));generalize w.alloc (.cells (bsV b q).toArray 47)=V at*;have C:=a.out.cell 3;have B:=a.out.cell 4;have A:=a.out.cell 7;have I:=a.out.cell 8;have H:=a.out.cell 9;have J:=a.out.cell 10;have D:=a.out.cell 11;have r:=a.out.cell 12;have n:=a.out.cell 13;have m:=a.out.cell 14;simp only [@gz Value] at C B A I H J D r n m
 go_wp2_with fail
 go_loop [3] (fun i=>∃ k:Nat,k<=b.hd.length/\i=.int .i64 k/\Hid (∀ j,j<k->b.hd.getD j 0= -1)) (fun i=>b.hd.length - (RowKit.intOf i).toNat)
 case atStart=>exact ⟨0,J4 _,rfl,fun j h=>absurd h (J8 _)⟩
 case round=>
  obtain ⟨k,K,rfl,hd⟩:=hrel;by_cases f:k<b.hd.length
  · obtain ⟨ha,L,u⟩:=Cc U.out f;rw [ha] at D;have g0:=(d.out.cell (p:=(aA P (off+k))) L).trans (u k f);by_cases g:b.hd.getD k 0= -1
    · have t:Hid (∀ j,j<k+1->b.hd.getD j 0= -1):=fun j hj=>by
       rcases Q7 j k with h | h
       · exact hd.out j h
       · obtain rfl:j=k:=O0;exact g
      rw [g] at g0;clear u g hd;go_wp2
      go_round
      case rel=>exact ⟨k+1,O0,by go_num,t⟩
      case measure=>simp [RowKit.intOf];omega
    have c:Hid (¬ iC b):=fun h=>g (h.1 k f);generalize b.hd.getD k 0=X at*;clear u hd;go_wp2;go_ret;exact ⟨G5 c.out,d.out⟩
  obtain rfl:k=b.hd.length:=O0;have S:=hd;clear hd f K;by_cases h1:b.ep=0;rotate_left
  · have c:Hid (¬ iC b):=fun h=>h1 h.2.1;go_wp2;go_ret;exact ⟨G5 c.out,d.out⟩
  by_cases h2:b.ed=0;rotate_left
  · have c:Hid (¬ iC b):=fun h=>h2 h.2.2.1;go_wp2;go_ret;exact ⟨G5 c.out,d.out⟩
  by_cases y:b.fs.length=0;rotate_left
  · have c:Hid (¬ iC b):=fun h=>y (by rw [h.2.2.2.1];rfl);have z:¬ ((b.fs.length:Int)=0):=O0;go_wp2;go_ret;exact ⟨G5 c.out,d.out⟩
  rw [h1] at C;rw [h2] at B;rw [y] at A
  go_wp2_with fail
  refine (c60 b.s ⟨0,[],[]⟩ q.ta q.ra none none q.tc q.rc 0 0 V (mX R.out.st) a0m (W.out.st.below d.out) ⟨.inl rfl,.inl rfl⟩).mono ?_;rintro e w1 ⟨⟨O,rfl,l⟩,v⟩;have E:=U0 (a.out.below v a.out.lt);have F:=U0 (X5 d.out v);clear v C B A I H J D r n m a d;have r:=E.out.cell 12;have n:=E.out.cell 13;have m:=E.out.cell 14;simp only [@gz Value] at r n m
  cases O with
  | false=>
   have c:Hid (¬ iC b):=fun h=>by have:=l.2 h.2.2.2.2.1;cases this
   clear l;go_wp2;go_ret;exact ⟨G5 c.out,F.out⟩
  | true=>
  have Q:=U0 (l.1 rfl);clear l;by_cases N:b.rt.length+b.rn.length+b.jb.length=0
  · have t:Hid (iC b):=⟨S.out,h1,h2,Va.1 y,Q.out,Va.1 O0,Va.1 O0,Va.1 O0⟩;have z:((b.rt.length:Int)+b.rn.length+b.jb.length==0)=true:=Ko.2 O0;go_wp2;go_ret;exact ⟨by first | exact u_ t.out | (rw [z];exact u_ t.out),F.out⟩
  have c:Hid (¬ iC b):=fun h=>N (by rw [h.2.2.2.2.2.1,h.2.2.2.2.2.2.1,h.2.2.2.2.2.2.2];rfl);have z:((b.rt.length:Int)+b.rn.length+b.jb.length==0)=false:=p_.2 O0;go_wp2;go_ret;exact ⟨by first | exact G5 c.out | (rw [z];exact G5 c.out),F.out⟩
def Hrd (hd:List Int) (now:Int):Prop:=(1<=hd.length/\hd.length<=4)/\∀ i,i<hd.length-> -1<=hd.getD i 0/\hd.getD i 0<=now
theorem c69 (a:OA) (n:Nat) (hd:List Int) (now:Int) (w:World) (hl:hd.length<=1048576) (m:Ye w a hd):
 Calls prog 69 #[.slice a hd.length n,.int .i64 now] w fun e w'=>Rb (Hrd hd now) e/\w'=w:=by
 obtain ⟨bb,off,hc⟩:=ig m;have r:=U0 hc;clear m hc;go_enter func69,ntmps69
 go_wp2_with fail
 refine (c107 hd.length w).mono ?_;rintro e w1 ⟨rfl,hw⟩;obtain rfl:=hw.symm;by_cases h0:1<=hd.length/\hd.length<=4;rotate_left
 · have b:Hid (¬ Hrd hd now):=fun h=>h0 h.1;rw [show decide (1<=(hd.length:Int)/\(hd.length:Int)<=4)=false from S9 O0];go_wp2;go_ret;exact ⟨G5 b.out,rfl⟩
 rw [show decide (1<=(hd.length:Int)/\(hd.length:Int)<=4)=true from C_ O0]
 go_wp2_with fail
 go_loop [13] (fun i=>∃ k:Nat,k<=hd.length/\i=.int .i64 k/\Hid (∀ j,j<k-> -1<=hd.getD j 0/\hd.getD j 0<=now)) (fun i=>hd.length - (RowKit.intOf i).toNat)
 case atStart=>exact ⟨0,J4 _,rfl,fun j h=>absurd h (J8 _)⟩
 case round=>
  obtain ⟨k,hk,rfl,f⟩:=hrel;by_cases c:k<hd.length;rotate_left
  · obtain rfl:k=hd.length:=O0;have o:Hid (Hrd hd now):=⟨h0,f.out⟩;go_wp2;go_ret;exact ⟨u_ o.out,rfl⟩
  obtain ⟨ha,hbw,l⟩:=Cc r.out c;subst ha;have g0:=l k c;have q:Hid (-1<=hd.getD k 0/\hd.getD k 0<=now->∀ j,j<k+1-> -1<=hd.getD j 0/\hd.getD j 0<=now):=fun d j hj=>by
   rcases Q7 j k with h | h
   · exact f.out j h
   · obtain rfl:j=k:=O0;exact d
  have b:Hid (¬ (-1<=hd.getD k 0/\hd.getD k 0<=now)->¬ Hrd hd now):=fun d h=>d (h.2 k c);generalize hd.getD k 0=X at*;clear l f;by_cases h1:X< -1
  · have g:=U0 (b.out O0);go_wp2;go_ret;exact ⟨G5 g.out,rfl⟩
  by_cases h2:now<X
  · have g:=U0 (b.out O0);go_wp2;go_ret;exact ⟨G5 g.out,rfl⟩
  have p:=U0 (q.out O0);go_wp2
  go_round
  case rel=>exact ⟨k+1,O0,by go_num,p⟩
  case measure=>simp [RowKit.intOf];omega
