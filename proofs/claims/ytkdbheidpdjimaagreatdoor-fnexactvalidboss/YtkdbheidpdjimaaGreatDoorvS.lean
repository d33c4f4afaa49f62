import Derived.Test.YtkdbheidpdjimaaGreatDoorS1
import Derived.Test.YtkdbheidpdjimaaGreatDoorpA
import Derived.Test.YtkdbheidpdjimaaGreatDoorMF
import Derived.Test.YtkdbheidpdjimaaGreatDoorvQ
set_option linter.unusedVariables false
set_option maxHeartbeats 8000000
set_option maxRecDepth 100000
namespace Go.Proofs.YtkdbheidpdjimaaGreatDoor
open Proofs.Tryz Go.RowKit Go.Maps
def kn (K:Int) (rs:List R3) (i:Nat):Int:=K+2*(i:Int)+3*(Xx (rs.take i):Int)
end Go.Proofs.YtkdbheidpdjimaaGreatDoor
namespace Go.Proofs.YtkdbheidpdjimaaGreatDoor.G
open Proofs.Tryz Go.RowKit
section
variable {w:World} {l:LB} {b s:BY}
def nG (w:World) (a:OA) (l:LB):Prop:=l=[]\/∃ b off,a=some ⟨b,off,none⟩/\b<w.heap.size/\∀ i,i<l.length->w.cell? ⟨b,off+i,none⟩=some (.string (l.getD i ⟨#[]⟩))
theorem PG {a:OA} (h:nG w a l):∃ b off,(l=[]\/(a=some ⟨b,off,none⟩/\b<w.heap.size/\∀ i,i<l.length->w.cell? ⟨b,off+i,none⟩=some (.string (l.getD i ⟨#[]⟩)))):=by
 rcases h with h | ⟨b,off,h⟩
 · exact ⟨0,0,.inl h⟩
 exact ⟨b,off,.inr h⟩
def EG (l:LB) (s:BY):Bool:=l.any fun x=>decide (x=s)
theorem Yh:EG l s=true↔s∈l:=by
 simp [EG]
theorem c24 (a:OA) (q:Nat) (l:LB) (s:BY) (w:World) (hl:l.length<=1000) (p:nG w a l):
 Calls prog 24 #[.slice a l.length q,.string s] w fun e w'=>e=.returned (.bool (EG l s))/\w'=w:=by
 obtain ⟨b,off,hc⟩:=PG p;have t:=U0 hc;clear p hc;go_enter func24,ntmps24
 go_wp2_with fail
 go_loopw [5] (fun c wr=>∃ k:Nat,k<=l.length/\c=.int .i64 k/\wr=w/\Hid (∀ j,j<k->l.getD j ⟨#[]⟩≠s)) (fun c _=>l.length - (intOf c).toNat)
 case atStart=>exact ⟨0,D5 _,rfl,rfl,fun j h=>absurd h (o9 _)⟩
 obtain ⟨k,hk,rfl,rfl,hd⟩:=hrel;by_cases f:k<l.length;rotate_left
 · have g:Hid (EG l s=false):=by
    show _=_;rw [<- Bool.not_eq_true,Yh];intro hm;obtain ⟨j,n,rfl⟩:=Ee hm;exact hd.out j O0 (by simp [List.getD,y9 n])
   clear hd;go_wp2;go_ret;exact ⟨by rw [g.out];rfl,rfl⟩
 obtain ⟨ha,hbw,o⟩:=Nc t.out f;subst ha;have g0:=o k f;have i:Hid (l.getD k ⟨#[]⟩∈l):=by show _∈_;simp [List.getD,y9 f]
 have m:Hid (l.getD k ⟨#[]⟩≠s->∀ j,j<k+1->l.getD j ⟨#[]⟩≠s):=fun h j n=>by
  rcases o8 j k with h1 | h1
  · exact hd.out j h1
  obtain rfl:j=k:=O0;exact h
 generalize l.getD k ⟨#[]⟩=x at*;clear o;cases hq:(x.toList==s.toList);rotate_left
 · have d:x=s:=by
    have:=Zn.1 hq;rw [ByteArray.toList_eq,ByteArray.toList_eq] at this;exact qg (Rl.1 this)
   subst d;have g:Hid (EG l x=true):=Yh.2 i.out;clear m hd i;go_wp2;go_ret;exact ⟨by rw [g.out];rfl,rfl⟩
 have d:x≠s:=fun e=>by rw [e] at hq;simp at hq
 have r:=U0 (m.out d);clear m hd i;go_wp2;go_roundw
 case rel=>exact ⟨k+1,O0,by go_num,trivial,r⟩
 case measure=>simp [intOf];omega
end
theorem c127 (a:OA) (p:Nat) (l:LB) (s:BY) (w:World) (hl:l.length<=1000) (n:nG w a l):
 Calls prog 127 #[.slice a l.length p,.string s] w fun e w'=>(∃ r:Int,e=.returned (.int .i64 r)/\(0<=r↔s∈l))/\w'=w:=by
 obtain ⟨b,off,hc⟩:=PG n;have u:=U0 hc;clear n hc;go_enter func127,ntmps127
 go_wp2_with fail
 go_loopw [8] (fun c wr=>∃ k:Nat,k<=l.length/\c=.int .i64 k/\wr=w/\Hid (∀ j,j<k->l.getD j ⟨#[]⟩≠s)) (fun c _=>l.length - (intOf c).toNat)
 case atStart=>exact ⟨0,D5 _,rfl,rfl,fun j h=>absurd h (o9 _)⟩
 obtain ⟨k,hk,rfl,rfl,hd⟩:=hrel;by_cases f:k<l.length;rotate_left
 · have q:Hid (s∉l):=fun hm=>by
    obtain ⟨j,i,rfl⟩:=Ee hm;exact hd.out j O0 (by simp [List.getD,y9 i])
   clear hd;go_wp2;go_ret;exact ⟨⟨-1,rfl,⟨fun h=>O0,fun h=>absurd h q.out⟩⟩,rfl⟩
 obtain ⟨ha,hbw,m⟩:=Nc u.out f;subst ha;have g0:=m k f;have o:Hid (l.getD k ⟨#[]⟩∈l):=by show _∈_;simp [List.getD,y9 f]
 have g:Hid (l.getD k ⟨#[]⟩≠s->∀ j,j<k+1->l.getD j ⟨#[]⟩≠s):=fun h j i=>by
  rcases o8 j k with h1 | h1
  · exact hd.out j h1
  obtain rfl:j=k:=O0;exact h
 generalize l.getD k ⟨#[]⟩=x at*;clear m;cases hq:(s.toList==x.toList);rotate_left
 · have d:s=x:=by
    have:=Zn.1 hq;rw [ByteArray.toList_eq,ByteArray.toList_eq] at this;exact qg (Rl.1 this)
   subst d;clear g hd;go_wp2;go_ret;exact ⟨⟨k,rfl,⟨fun _=>o.out,fun _=>O0⟩⟩,rfl⟩
 have d:x≠s:=fun e=>by rw [e] at hq;simp at hq
 have t:=U0 (g.out d);clear g hd o;go_wp2;go_roundw
 case rel=>exact ⟨k+1,O0,by go_num,trivial,t⟩
 case measure=>simp [intOf];omega
theorem c78 (a:OA) (d:Nat) (l:LB) (s:BY) (w:World) (hl:l.length<=1000) (c:nG w a l):
 Calls prog 78 #[.slice a l.length d,.string s] w fun e w'=>e=.returned (.bool (EG l s))/\w'=w:=by
 have h:=c127 a d l s w hl c;clear c;go_enter func78,ntmps78
 go_wp2_with fail
 refine h.mono ?_;rintro e w1 ⟨⟨r,rfl,hr⟩,rfl⟩;clear h;by_cases h0:0<=r
 · have b:Hid (EG l s=true):=Yh.2 (hr.1 h0);clear hr;go_wp2;go_ret;exact ⟨by rw [b.out];rfl,rfl⟩
 have b:Hid (EG l s=false):=by show _=_;rw [<- Bool.not_eq_true,Yh];exact fun h=>h0 (hr.2 h)
 clear hr;go_wp2;go_ret;have f:decide (0<=r)=false:=by simpa using h0
 exact ⟨by rw [b.out,f];rfl,rfl⟩
end Go.Proofs.YtkdbheidpdjimaaGreatDoor.G
namespace Go.Proofs.YtkdbheidpdjimaaGreatDoor
open Proofs.Tryz Go.RowKit Go.Maps
theorem a2f (a o:OA) (z y:Nat) (is:List R3) (w:World) (hl:is.length<=1048576) (f:∀ i,(is.getD i g_).gs.length<=1048576) (m:Jg w a is) (l:Jg w o is):
 Calls prog 88 #[.slice a is.length z,.slice o is.length y] w fun e w'=>e=.returned (.bool true)/\Bw w w':=by
 obtain ⟨b,off,hc⟩:=Af m;have H:=U0 hc;obtain ⟨b',off',j⟩:=Af l;have F:=U0 j;have C:=U0 f;clear hc m j l f;go_enter func88,ntmps88
 go_wp2_with fail
 go_loopw [5] (fun i wr=>∃ (k:Nat),k<=is.length/\i=.int .i64 k/\Below w.heap.size w wr) (fun i _=>is.length - (intOf i).toNat)
 case atStart=>exact ⟨0,D5 _,rfl,Z4 _ _⟩
 case round=>
  obtain ⟨k,hk,rfl,c⟩:=hrel;by_cases d:k<is.length
  · obtain ⟨ha,r,h⟩:=Nc H.out d;obtain ⟨t,q,g⟩:=Nc F.out d;subst ha;subst t;obtain ⟨B,v,e0,e1,e2,n⟩:=(h k d).below r c;obtain ⟨A,u,f0,f1,f2,f3⟩:=(g k d).below q c;have p:=C.out k;generalize is.getD k g_=x at*;have E:=U0 n;have D:=U0 f3;clear h g n f3
    go_wp2_with fail
    go_region_with (go_at_call 143;refine (c143 x B A v u _ p (O8 E.out (Z4 _ _).drew) (O8 D.out (Z4 _ _).drew)).mono ?_;rintro e w1 ⟨rfl,s⟩)
    all_goals go_wp2
    all_goals go_roundw
    all_goals first
     | exact ⟨k+1,O0,by go_num,(c.drew).trans (s.mono c.size)⟩
     | (simp [intOf];omega)
  · go_wp2;go_ret;exact ⟨rfl,c⟩
theorem a1S (ta ra b a:OA) (tc rc f c:Nat) (s:St) (w:World) (g:s.ts.length<=1048576/\s.rs.length<=1048576/\∀ i,(s.rs.getD i g_).gs.length<=1048576) (k:Zg w ta ra s) (j:Zg w b a s):
 Calls prog 45 #[.agg #[.int .i64 s.wd,.slice ta s.ts.length tc,.slice ra s.rs.length rc],.agg #[.int .i64 s.wd,.slice b s.ts.length f,.slice a s.rs.length c]] w fun e w'=>e=.returned (.bool true)/\Bw w w':=by
 have p:=U0 g;have u:=U0 k;have t:=U0 j;have m:Bw w ((w.alloc (.cells #[vI s.wd,vL ta s.ts.length tc,vL ra s.rs.length rc] 44)).alloc (.cells #[vI s.wd,vL b s.ts.length f,vL a s.rs.length c] 44)):=o7.alloc I4 _;have o:=c47 ta b tc f s.ts _ g.1 (Z5 k.1 m) (Z5 j.1 m);clear g k j;go_enter func45,ntmps45
 go_wp2_with fail
 refine o.mono ?_;rintro e d ⟨rfl,h⟩;have l:=m.trans (h.mono U7);have g2:d.cell? ⟨w.heap.size,2,none⟩=some (vL ra s.rs.length rc):=by rw [h.cell U7];simp [go_sem]
 have g3:d.cell? ⟨w.heap.size+1,2,none⟩=some (vL a s.rs.length c):=by rw [h.cell I4];simp [go_sem]
 have n:=a2f ra a rc c s.rs d p.out.2.1 p.out.2.2 (Ah u.out.2 l) (Ah t.out.2 l);clear o
 go_wp2_with fail
 refine n.mono ?_;rintro e w2 ⟨rfl,q⟩;have r:=G7 l q;clear n;go_wp2;go_ret;exact ⟨rfl,r⟩
open Go.RowKit
theorem c124 (a c:List R3) (l g:OA) (p o:Nat) (w:World) (hl:a.length<=1048576) (hl':c.length<=1048576) (hx:∀ i,(a.getD i g_).gs.length<=1048576) (v:∀ i,(c.getD i g_).gs.length<=1048576) (D:Jg w l a) (C:Jg w g c):
 Calls prog 124 #[.slice l a.length p,.slice g c.length o,.func (.func 125) #[] #[]] w fun e w'=>Rb (a=c) e/\Bw w w':=by
 have S:=U0 hx;have R:=U0 v;clear hx v;by_cases d:a.length=c.length;rotate_left
 · have s:Hid (¬ a=c):=fun h=>d (by rw [h]);have hn1:¬ (a.length:Int)=c.length:=O0;go_enter func124,ntmps124;go_wp2;go_ret;exact ⟨G5 s.out,Z4 _ _⟩
 rw [<- d];have t:=U0 d;obtain ⟨b,off,hc⟩:=Af D;obtain ⟨b',off',z⟩:=Af C;have HC:=U0 hc;have HC':=U0 z;clear hc z D C d;go_enter func124,ntmps124
 go_wp2_with fail
 go_loopw [17] (fun i wr=>∃ (k:Nat),k<=a.length/\i=.int .i64 k/\Hid (∀ j,j<k->a.getD j g_=c.getD j g_)/\Below w.heap.size w wr) (fun i _=>a.length - (intOf i).toNat)
 case atStart=>exact ⟨0,D5 _,rfl,fun j h=>absurd h (o9 _),Z4 _ _⟩
 case round=>
  obtain ⟨k,hk2,rfl,hd,f⟩:=hrel;by_cases m:k<a.length;rotate_left
  · obtain rfl:k=a.length:=O0;have V:=U0 (Wn t.out hd.out);go_wp2;go_ret;exact ⟨C_ V.out,f⟩
  obtain ⟨ha,O,y⟩:=Nc HC.out m;rcases HC'.out with N | ⟨P,A,x⟩
  · have d:=t.out;rw [N] at d;rw [d] at m;exact absurd m (o9 _)
  subst ha;subst P;have a3r:=m_ A f.size;obtain ⟨l,p,g0,g1,g2,g3⟩:=(y k m).below O f;obtain ⟨g,o,J,I,H,u⟩:=(x k (by have:=t.out;omega)).below A f;have G3:=U0 g3;have U:=U0 u;have L:=S.out k;have K:=R.out k;have HD:Hid (a.getD k g_=c.getD k g_->∀ j,j<k+1->a.getD j g_=c.getD j g_):=fun r j hj=>by
   rcases o8 j k with h | h
   · exact hd.out j h
   · obtain rfl:j=k:=O0;exact r
  have s:Hid (¬ a.getD k g_=c.getD k g_->¬ a=c):=fun r h=>r (by rw [h]);have E:=U0 f;clear y x g3 u hd f;generalize a.getD k g_=X at*;generalize c.getD k g_=Y at*;have q:Hid (Bw wr ((wr.alloc (.cells #[vS X.key,vL l X.gs.length p,vS X.out] 113)).alloc (.cells #[vS Y.key,vL g Y.gs.length o,vS Y.out] 113))):=o7.alloc I4 _
  go_wp2_with fail
  refine (a0w X Y l g p o _ L K (O8 G3.out q.out) (O8 U.out q.out)).mono ?_;rintro e w1 ⟨⟨Q,rfl,n⟩,B⟩;have F:=U0 (G7 (G7 E.out q.out) B);clear B q E g0 g1 g2 J I H
  cases Q with
  | true=>
   have Z:=U0 (HD.out (n.1 rfl));clear n;go_wp2;go_roundw
   case rel=>exact ⟨k+1,O0,by go_num,Z,F.out⟩
   case measure=>simp [intOf];omega
  | false=>
   have W:=U0 (s.out (fun h=>by have:=n.2 h;cases this));clear n;go_wp2;go_ret;exact ⟨G5 W.out,F.out⟩
theorem c73 (x y:St) (ta ra a rb:OA) (tc rc b rd:Nat) (w:World) (hx:x.ts.length<=1048576/\x.rs.length<=1048576/\∀ i,(x.rs.getD i g_).gs.length<=1048576) (q:y.ts.length<=1048576/\y.rs.length<=1048576/\∀ i,(y.rs.getD i g_).gs.length<=1048576) (t:Zg w ta ra x) (s:Zg w a rb y):
 Calls prog 73 #[.agg #[.int .i64 x.wd,.slice ta x.ts.length tc,.slice ra x.rs.length rc],.agg #[.int .i64 y.wd,.slice a y.ts.length b,.slice rb y.rs.length rd]] w fun e w'=>Rb (x=y) e/\Bw w w':=by
 have X:=U0 hx;have Y:=U0 q;have B:=U0 t;have A:=U0 s;clear hx q t s;go_enter func73,ntmps73
 go_upto_region 1 with fail
 have f:=U0 (Oa (G6 w [vI x.wd,vL ta x.ts.length tc,vL ra x.rs.length rc] 44) (.cells #[vI y.wd,vL a y.ts.length b,vL rb y.rs.length rd] 44));have d:Hid (Cl ((w.alloc (.cells #[vI x.wd,vL ta x.ts.length tc,vL ra x.rs.length rc] 44)).alloc (.cells #[vI y.wd,vL a y.ts.length b,vL rb y.rs.length rd] 44)) (w.heap.size+1) 44 [vI y.wd,vL a y.ts.length b,vL rb y.rs.length rd]):=by show Cl _ _ _ _;have h:=G6 (w.alloc (.cells #[vI x.wd,vL ta x.ts.length tc,vL ra x.rs.length rc] 44)) [vI y.wd,vL a y.ts.length b,vL rb y.rs.length rd] 44;simpa using h
 have l:Hid (Bw w ((w.alloc (.cells #[vI x.wd,vL ta x.ts.length tc,vL ra x.rs.length rc] 44)).alloc (.cells #[vI y.wd,vL a y.ts.length b,vL rb y.rs.length rd] 44))):=o7.alloc I4 _;generalize (w.alloc (.cells #[vI x.wd,vL ta x.ts.length tc,vL ra x.rs.length rc] 44)).alloc (.cells #[vI y.wd,vL a y.ts.length b,vL rb y.rs.length rd] 44)=V at*;have z:=f.out.cell 0;have m:=d.out.cell 0;have v:=f.out.cell 1;have u:=d.out.cell 1;have a2:=f.out.cell 2;have j:=d.out.cell 2;simp only [@gz Value] at z m v u a2 j;by_cases hw:x.wd=y.wd;rotate_left
 · have o:Hid (¬ x=y):=fun h=>hw (by rw [h]);go_wp2;go_ret;exact ⟨G5 o.out,l.out⟩
 have D:=U0 hw;rw [<- hw] at m;clear hw
 go_wp2_with fail
 refine (a0V x.ts y.ts ta a tc b V X.out.1 Y.out.1 (Z5 B.out.1 l.out) (Z5 A.out.1 l.out)).mono ?_;rintro e C ⟨⟨n,rfl,c⟩,g⟩
 replace a2:=(g.cell (p:=(aW w 2)) f.out.lt).trans a2
 replace j:=(g.cell (p:=(aA (w.heap.size+1) 2)) d.out.lt).trans j
 have k:=U0 (G7 l.out g);clear g z v m u f d
 cases n with
 | false=>
  have o:Hid (¬ x=y):=fun h=>by have:=c.2 (by rw [h]);cases this
  clear c;go_wp2;go_ret;exact ⟨G5 o.out,k.out⟩
 | true=>
 have E:=U0 (c.1 rfl);clear c
 go_wp2_with fail
 refine (c124 x.rs y.rs ra rb rc rd C X.out.2.1 Y.out.2.1 X.out.2.2 Y.out.2.2 (Ah B.out.2 k.out) (Ah A.out.2 k.out)).mono ?_;rintro e w2 ⟨⟨n,rfl,c⟩,r⟩;have H:=U0 (G7 k.out r);have F:Hid (n=true↔x=y):=by
  have h1:=D.out;have h2:=E.out;obtain ⟨_,_,_⟩:=x;obtain ⟨_,_,_⟩:=y;dsimp only at h1 h2 c;subst h1 h2;exact c.trans ⟨fun h=>by rw [h],fun h=>by injection h⟩
 clear c r a2 j;go_wp2;go_ret;exact ⟨⟨_,rfl,F.out⟩,H.out⟩
