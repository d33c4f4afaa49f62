import Derived.Test.YtdjaajjndfbpmaaGreatDoorZ36
set_option maxHeartbeats 8000000
set_option linter.unusedSimpArgs false
namespace Go.Proofs.YtdjaajjndfbpmaaGreatDoor.G.T
open Proofs.Tryz
open Go.RowKit
structure F2 where
 nm:ByteArray
 tx:ByteArray
def P6:F2:=⟨⟨#[]⟩,⟨#[]⟩⟩
def F3 (w:World) (a:Option Addr) (rs:List F2):Prop:=
 rs=[]\/∃ b off,a=some ⟨b,off,none⟩/\b<w.heap.size/\∀ i,i<rs.length->w.cell? ⟨b,off+i*2,none⟩=some (.string (rs.getD i P6).nm)/\w.cell? ⟨b,off+i*2+1,none⟩=some (.string (rs.getD i P6).tx)
theorem Y8 {w:World} {a:Option Addr} {rs:List F2} (h:F3 w a rs):∃ b c,(rs=[]\/(a=some ⟨b,c,none⟩/\b<w.heap.size/\∀ i,i<rs.length->w.cell? ⟨b,c+i*2,none⟩=some (.string (rs.getD i P6).nm)/\w.cell? ⟨b,c+i*2+1,none⟩=some (.string (rs.getD i P6).tx))):=by
 rcases h with h | ⟨b,c,h⟩
 · exact ⟨0,0,.inl h⟩
 exact ⟨b,c,.inr h⟩
theorem U0 {w w':World} {a:Option Addr} {rs:List F2} (h:F3 w a rs) (c:Below w.heap.size w w'):F3 w' a rs:=by
 rcases h with h | ⟨b,d,h1,h2,h3⟩
 · exact .inl h
 exact .inr ⟨b,d,h1,D7 h2 c.size,fun i e=>by rw [c.cell (by exact h2),c.cell (by exact h2)];exact h3 i e⟩
def F2.le (x:F2) (B:Nat):Prop:=x.nm.size<=B/\x.tx.size<=B
def iP (w:World) (g:Nat):Prop:=g<w.heap.size/\∀ j,w.frozen? ⟨g,j,none⟩=false
theorem iP.set {w:World} {g:Nat} {p:Addr} {v:Value} (h:iP w g):iP (w.setCell p v) g:=⟨by simpa using h.1,fun j=>by simpa using h.2 j⟩
def V9 (x:F2):Bool:=J2 x.nm.data.toList&&decide ((x.tx.size:Int)<=300)
theorem QP (x:F2) (w:World) (b:x.le 1048700):
 Calls prog 27 #[.agg #[.string x.nm,.string x.tx]] w fun e w'=>e=.returned (.bool (V9 x))/\Below w.heap.size w w':=by
 have a:Hid (V9 x=(J2 x.nm.data.toList&&decide ((x.tx.size:Int)<=300))):=rfl;obtain ⟨h1,h2⟩:=b;go_enter func27,ntmps27
 go_wp2_with fail
 refine (c24 _ _ h1).mono ?_;rintro e w1 ⟨rfl,rfl⟩;cases hn:J2 x.nm.data.toList
 all_goals
  rw [hn] at a;go_wp2
  all_goals go_ret
  all_goals exact ⟨Y4 (by rw [a.out];simp),bA⟩
theorem c46 (x:F2) (w:World) (b:x.le 1048700):
 Calls prog 46 #[.agg #[.string x.nm,.string x.tx]] w fun e w'=>e=.returned (.bool (V9 x))/\Below w.heap.size w w':=by
 have a:Hid (V9 x=(J2 x.nm.data.toList&&decide ((x.tx.size:Int)<=300))):=rfl;obtain ⟨h1,h2⟩:=b;go_enter func46,ntmps46
 go_wp2_with fail
 refine (c19 _ _ h1).mono ?_;rintro e w1 ⟨rfl,rfl⟩;cases hn:J2 x.nm.data.toList
 all_goals
  rw [hn] at a;go_wp2
  all_goals go_ret
  all_goals exact ⟨Y4 (by rw [a.out];simp),bA⟩
theorem KC {x:F2} {v:Bool} (hv:V9 x=v) (w:World) (a:x.le 1048700):
 Calls prog 27 #[.agg #[.string x.nm,.string x.tx]] w fun e w'=>e=.returned (.bool v)/\Below w.heap.size w w':=hv▸QP x w a
theorem GD {x:F2} {v:Bool} (hv:V9 x=v) (w:World) (a:x.le 1048700):
 Calls prog 46 #[.agg #[.string x.nm,.string x.tx]] w fun e w'=>e=.returned (.bool v)/\Below w.heap.size w w':=hv▸c46 x w a
def r_ (fs:List F2) (k:Nat):Bool:=V9 (fs.getD k P6)&&(decide (k=0) || Op.bytesLess (fs.getD (k - 1) P6).nm.toList (fs.getD k P6).nm.toList)
def X3 (fs:List F2):Prop:=fs.length<=40/\∀ k,k<fs.length->r_ fs k=true
theorem c8 (a:Option Addr) (cap:Nat) (fs:List F2) (w:World) (hl:fs.length<=1048576) (N:∀ i,(fs.getD i P6).le 1048576) (Q:F3 w a fs):
 Calls prog 8 #[.agg #[.slice a fs.length cap]] w fun e w'=>(∃ b:Bool,e=.returned (.bool b)/\(b=true↔X3 fs))/\Below w.heap.size w w':=by
 obtain ⟨b,d,P⟩:=Y8 Q;have Z:=Q0 P;clear P Q;by_cases hbig:40<fs.length
 · go_enter func8,ntmps8
   go_wp2;go_ret;exact ⟨⟨false,rfl,by simp [X3];omega⟩,bA⟩
 go_enter func8,ntmps8
 go_wp2_with fail
 go_loopw [3] (fun i wr=>∃ k:Nat,k<=fs.length/\i=.int .i64 k/\Below w.heap.size w wr/\wr.cell? ⟨w.heap.size,0,none⟩=some (.slice a fs.length cap)/\w.heap.size+1<=wr.heap.size/\Hid (∀ j,j<k->r_ fs j=true)) (fun i _=>fs.length - (intOf i).toNat)
 case atStart=>exact ⟨0,I5 _,rfl,bA,X0,X0,fun j h=>absurd h (F5 _)⟩
 obtain ⟨k,hk,rfl,s,v,L,J⟩:=hrel;by_cases r:k<fs.length;rotate_left
 · have D:Hid (X3 fs):=⟨O0,fun j O=>J.out j O0⟩
   go_wp2;go_ret;exact ⟨⟨true,rfl,by simp only [true_iff];exact D.out⟩,s⟩
 rcases Z.out with R | ⟨W,F,E⟩
 · rw [R] at r;exact absurd r (F5 _)
 subst W;have A:=Q0 s;have g0:=(s.cell (p:=⟨b,d+k*2,none⟩) F).trans (E k r).1;have g1:=(s.cell (p:=⟨b,d+k*2+1,none⟩) F).trans (E k r).2;have l:=D7 F s.size;have z:Hid ((fs.getD k P6).le 1048700):=⟨Z4 (N k).1 O0,Z4 (N k).2 O0⟩;rcases Xg k with h0 | h0
 · subst h0
   have m:Hid (r_ fs 0=V9 (fs.getD 0 P6)):=by simp [r_,Hid]
   simp only [jk,Nh] at g0 g1;generalize fs.getD 0 P6=x at*;clear E s;cases hx:V9 x
   · go_wp2_with fail
     refine F7 (S:=(fun u=>u.cell? ⟨w.heap.size,0,none⟩=some (.slice (some ⟨b,d,none⟩) fs.length cap)/\u.cell? ⟨b,d,none⟩=some (.string x.nm)/\u.cell? ⟨b,d+1,none⟩=some (.string x.tx))) U2 ?_ fun c=>?_
     · ((try dsimp only);go_keep)
     refine tq 0 c ?_;refine I4 1 c ?_;refine tq 2 c ?_;refine I4 3 c ?_;refine I4 4 c ?_;refine rq 5 fun K g=>?_;go_simp;refine (KC hx _ z.out).mono ?_;rintro e w1 ⟨rfl,n⟩;have f:Hid (Below wr.heap.size wr w1):=((F4 _ _).drew).trans n;have t:=(f.out.cell (p:=⟨w.heap.size,0,none⟩) (by show w.heap.size<wr.heap.size;omega)).trans v;have C:=(f.out.cell (p:=⟨b,d,none⟩) l).trans g0;have B:=(f.out.cell (p:=⟨b,d+1,none⟩) l).trans g1
     go_wp2_with fail
     clear c;refine Ls g fun c=>?_;clear g K;refine tq 6 c ?_;refine I4 7 c ?_;refine uq 8 c ?_;refine I8 9 c ?_;refine uq 10 c ?_;refine I8 11 c ?_;refine uq 12 c ?_;refine I8 13 c ?_;refine uq 14 c ?_;refine I8 15 c ?_;refine uq 16 c ?_;refine I8 17 c ?_;refine uq 18 c ?_;refine I8 19 c ?_;refine uq 20 c ?_;refine I8 21 c ?_;refine uq 22 c ?_;refine I8 23 c ?_;refine uq 24 c ?_;refine I8 25 c ?_;refine I4 26 c ?_;refine a_ ?_;have o:=bT A.out f.out;rw [hx] at m;clear c;go_wp2;go_ret;exact ⟨⟨false,rfl,by simp only [I_,Yi];intro h;have:=h.2 _ r;rw [m.out] at this;cases this⟩,o⟩
   go_wp2_with fail
   refine F7 (S:=(fun u=>u.cell? ⟨w.heap.size,0,none⟩=some (.slice (some ⟨b,d,none⟩) fs.length cap)/\u.cell? ⟨b,d,none⟩=some (.string x.nm)/\u.cell? ⟨b,d+1,none⟩=some (.string x.tx))) U2 ?_ fun c=>?_
   · ((try dsimp only);go_keep)
   refine tq 0 c ?_;refine I4 1 c ?_;refine tq 2 c ?_;refine I4 3 c ?_;refine I4 4 c ?_;refine rq 5 fun K g=>?_;go_simp;refine (KC hx _ z.out).mono ?_;rintro e w1 ⟨rfl,n⟩;have f:Hid (Below wr.heap.size wr w1):=((F4 _ _).drew).trans n;have t:=(f.out.cell (p:=⟨w.heap.size,0,none⟩) (by show w.heap.size<wr.heap.size;omega)).trans v;have C:=(f.out.cell (p:=⟨b,d,none⟩) l).trans g0;have B:=(f.out.cell (p:=⟨b,d+1,none⟩) l).trans g1
   go_wp2_with fail
   clear c;refine Ls g fun c=>?_;clear g K;refine tq 6 c ?_;refine I4 7 c ?_;refine tq 8 c ?_;refine I4 9 c ?_;refine tq 10 c ?_;refine I8 11 c ?_;refine uq 12 c ?_;refine I8 13 c ?_;refine uq 14 c ?_;refine I8 15 c ?_;refine uq 16 c ?_;refine I8 17 c ?_;refine uq 18 c ?_;refine I8 19 c ?_;refine uq 20 c ?_;refine I8 21 c ?_;refine uq 22 c ?_;refine I8 23 c ?_;refine uq 24 c ?_;refine I4 25 c ?_;refine I4 26 c ?_;refine a_ ?_;have o:=bT A.out f.out;have I:=Z4 L f.out.size;rw [hx] at m;have D:Hid (∀ j,j<0+1->r_ fs j=true):=fun j O=>by
    rcases U5 j 0 with h | h
    · exact J.out j h
    obtain rfl:j=0:=O0;exact m.out
   clear c;go_wp2;go_roundw
   case rel=>exact ⟨0+1,O0,by go_num,o,t,I,D⟩
   case measure=>simp [intOf];omega
 obtain ⟨q,U⟩:∃ q,q+1=k:=⟨k - 1,O0⟩;have g2:=(s.cell (p:=⟨b,d+q*2,none⟩) F).trans (E q O0).1;have m:Hid (r_ fs k=(V9 (fs.getD k P6)&&Op.bytesLess (fs.getD q P6).nm.toList (fs.getD k P6).nm.toList)):=by
  have Y:decide (k=0)=false:=Oh O0;have X:k - 1=q:=O0;unfold r_;rw [Y,X];rfl
 have V:(0:Int)<(k:Int):=O0;have hm1:=Xm V;generalize fs.getD k P6=x at*;generalize fs.getD q P6=y at*;have hwr:IntKind.i64.wrap ((k:Int) - 1)=(q:Int):=by rw [show (k:Int) - 1=(q:Int) by omega];exact Jl q O0
 have zT:(q:Int)<(fs.length:Int):=O0;clear U;clear E s;cases hx:V9 x
 · cases hy:Op.bytesLess y.nm.toList x.nm.toList
   · go_wp2_with fail
     refine F7 (S:=(fun u=>u.cell? ⟨w.heap.size,0,none⟩=some (.slice (some ⟨b,d,none⟩) fs.length cap)/\u.cell? ⟨b,d+k*2,none⟩=some (.string x.nm)/\u.cell? ⟨b,d+k*2+1,none⟩=some (.string x.tx)/\u.cell? ⟨b,d+q*2,none⟩=some (.string y.nm))) U2 ?_ fun c=>?_
     · ((try dsimp only);go_keep)
     refine tq 0 c ?_;refine I4 1 c ?_;refine tq 2 c ?_;refine I4 3 c ?_;refine I4 4 c ?_;refine rq 5 fun K g=>?_;go_simp;refine (KC hx _ z.out).mono ?_;rintro e w1 ⟨rfl,n⟩;have f:Hid (Below wr.heap.size wr w1):=((F4 _ _).drew).trans n;have t:=(f.out.cell (p:=⟨w.heap.size,0,none⟩) (by show w.heap.size<wr.heap.size;omega)).trans v;have C:=(f.out.cell (p:=⟨b,d+k*2,none⟩) l).trans g0;have B:=(f.out.cell (p:=⟨b,d+k*2+1,none⟩) l).trans g1;have H:=(f.out.cell (p:=⟨b,d+q*2,none⟩) l).trans g2
     go_wp2_with fail
     clear c;refine Ls g fun c=>?_;clear g K;refine tq 6 c ?_;refine I4 7 c ?_;refine uq 8 c ?_;refine I8 9 c ?_;refine uq 10 c ?_;refine I8 11 c ?_;refine uq 12 c ?_;refine I8 13 c ?_;refine uq 14 c ?_;refine I8 15 c ?_;refine uq 16 c ?_;refine I8 17 c ?_;refine uq 18 c ?_;refine I8 19 c ?_;refine uq 20 c ?_;refine I8 21 c ?_;refine uq 22 c ?_;refine I8 23 c ?_;refine uq 24 c ?_;refine I8 25 c ?_;refine I4 26 c ?_;refine a_ ?_;have o:=bT A.out f.out;rw [hx,hy] at m;clear c;go_wp2;go_ret;exact ⟨⟨false,rfl,by simp only [I_,Yi];intro h;have:=h.2 _ r;rw [m.out] at this;cases this⟩,o⟩
   go_wp2_with fail
   refine F7 (S:=(fun u=>u.cell? ⟨w.heap.size,0,none⟩=some (.slice (some ⟨b,d,none⟩) fs.length cap)/\u.cell? ⟨b,d+k*2,none⟩=some (.string x.nm)/\u.cell? ⟨b,d+k*2+1,none⟩=some (.string x.tx)/\u.cell? ⟨b,d+q*2,none⟩=some (.string y.nm))) U2 ?_ fun c=>?_
   · ((try dsimp only);go_keep)
   refine tq 0 c ?_;refine I4 1 c ?_;refine tq 2 c ?_;refine I4 3 c ?_;refine I4 4 c ?_;refine rq 5 fun K g=>?_;go_simp;refine (KC hx _ z.out).mono ?_;rintro e w1 ⟨rfl,n⟩;have f:Hid (Below wr.heap.size wr w1):=((F4 _ _).drew).trans n;have t:=(f.out.cell (p:=⟨w.heap.size,0,none⟩) (by show w.heap.size<wr.heap.size;omega)).trans v;have C:=(f.out.cell (p:=⟨b,d+k*2,none⟩) l).trans g0;have B:=(f.out.cell (p:=⟨b,d+k*2+1,none⟩) l).trans g1;have H:=(f.out.cell (p:=⟨b,d+q*2,none⟩) l).trans g2
   go_wp2_with fail
   clear c;refine Ls g fun c=>?_;clear g K;refine tq 6 c ?_;refine I4 7 c ?_;refine uq 8 c ?_;refine I8 9 c ?_;refine uq 10 c ?_;refine I8 11 c ?_;refine uq 12 c ?_;refine I8 13 c ?_;refine uq 14 c ?_;refine I8 15 c ?_;refine uq 16 c ?_;refine I8 17 c ?_;refine uq 18 c ?_;refine I8 19 c ?_;refine uq 20 c ?_;refine I8 21 c ?_;refine uq 22 c ?_;refine I8 23 c ?_;refine uq 24 c ?_;refine I8 25 c ?_;refine I4 26 c ?_;refine a_ ?_;have o:=bT A.out f.out;rw [hx,hy] at m;clear c;go_wp2;go_ret;exact ⟨⟨false,rfl,by simp only [I_,Yi];intro h;have:=h.2 _ r;rw [m.out] at this;cases this⟩,o⟩
 cases hy:Op.bytesLess y.nm.toList x.nm.toList
 · go_wp2_with fail
   refine F7 (S:=(fun u=>u.cell? ⟨w.heap.size,0,none⟩=some (.slice (some ⟨b,d,none⟩) fs.length cap)/\u.cell? ⟨b,d+k*2,none⟩=some (.string x.nm)/\u.cell? ⟨b,d+k*2+1,none⟩=some (.string x.tx)/\u.cell? ⟨b,d+q*2,none⟩=some (.string y.nm))) U2 ?_ fun c=>?_
   · ((try dsimp only);go_keep)
   refine tq 0 c ?_;refine I4 1 c ?_;refine tq 2 c ?_;refine I4 3 c ?_;refine I4 4 c ?_;refine rq 5 fun K g=>?_;go_simp;refine (KC hx _ z.out).mono ?_;rintro e w1 ⟨rfl,n⟩;have f:Hid (Below wr.heap.size wr w1):=((F4 _ _).drew).trans n;have t:=(f.out.cell (p:=⟨w.heap.size,0,none⟩) (by show w.heap.size<wr.heap.size;omega)).trans v;have C:=(f.out.cell (p:=⟨b,d+k*2,none⟩) l).trans g0;have B:=(f.out.cell (p:=⟨b,d+k*2+1,none⟩) l).trans g1;have H:=(f.out.cell (p:=⟨b,d+q*2,none⟩) l).trans g2
   go_wp2_with fail
   clear c;refine Ls g fun c=>?_;clear g K;refine tq 6 c ?_;refine I4 7 c ?_;refine tq 8 c ?_;refine I4 9 c ?_;refine tq 10 c ?_;refine I4 11 c ?_;refine tq 12 c ?_;refine I4 13 c ?_;refine tq 14 c ?_;refine I4 15 c ?_;refine tq 16 c ?_;refine I4 17 c ?_;refine tq 18 c ?_;refine I4 19 c ?_;refine tq 20 c ?_;refine I4 21 c ?_;refine tq 22 c ?_;refine I4 23 c ?_;refine tq 24 c ?_;refine I4 25 c ?_;refine I4 26 c ?_;refine a_ ?_;have o:=bT A.out f.out;rw [hx,hy] at m;clear c;go_wp2;go_ret;exact ⟨⟨false,rfl,by simp only [I_,Yi];intro h;have:=h.2 _ r;rw [m.out] at this;cases this⟩,o⟩
 go_wp2_with fail
 refine F7 (S:=(fun u=>u.cell? ⟨w.heap.size,0,none⟩=some (.slice (some ⟨b,d,none⟩) fs.length cap)/\u.cell? ⟨b,d+k*2,none⟩=some (.string x.nm)/\u.cell? ⟨b,d+k*2+1,none⟩=some (.string x.tx)/\u.cell? ⟨b,d+q*2,none⟩=some (.string y.nm))) U2 ?_ fun c=>?_
 · ((try dsimp only);go_keep)
 refine tq 0 c ?_;refine I4 1 c ?_;refine tq 2 c ?_;refine I4 3 c ?_;refine I4 4 c ?_;refine rq 5 fun K g=>?_;go_simp;refine (KC hx _ z.out).mono ?_;rintro e w1 ⟨rfl,n⟩;have f:Hid (Below wr.heap.size wr w1):=((F4 _ _).drew).trans n;have t:=(f.out.cell (p:=⟨w.heap.size,0,none⟩) (by show w.heap.size<wr.heap.size;omega)).trans v;have C:=(f.out.cell (p:=⟨b,d+k*2,none⟩) l).trans g0;have B:=(f.out.cell (p:=⟨b,d+k*2+1,none⟩) l).trans g1;have H:=(f.out.cell (p:=⟨b,d+q*2,none⟩) l).trans g2
 go_wp2_with fail
 clear c;refine Ls g fun c=>?_;clear g K;refine tq 6 c ?_;refine I4 7 c ?_;refine tq 8 c ?_;refine I4 9 c ?_;refine tq 10 c ?_;refine I4 11 c ?_;refine tq 12 c ?_;refine I4 13 c ?_;refine tq 14 c ?_;refine I4 15 c ?_;refine tq 16 c ?_;refine I4 17 c ?_;refine tq 18 c ?_;refine I4 19 c ?_;refine tq 20 c ?_;refine I4 21 c ?_;refine tq 22 c ?_;refine I4 23 c ?_;refine tq 24 c ?_;refine I4 25 c ?_;refine I4 26 c ?_;refine a_ ?_;have o:=bT A.out f.out;have I:=Z4 L f.out.size;rw [hx,hy] at m;have D:Hid (∀ j,j<k+1->r_ fs j=true):=fun j O=>by
  rcases U5 j k with h | h
  · exact J.out j h
  obtain rfl:j=k:=O0;exact m.out
 clear c;go_wp2;go_roundw
 case rel=>exact ⟨k+1,O0,by go_num,o,t,I,D⟩
 case measure=>simp [intOf];omega
theorem c18 (a:Option Addr) (cap:Nat) (fs:List F2) (w:World) (hl:fs.length<=1048576) (V:∀ i,(fs.getD i P6).le 1048576) (Z:F3 w a fs):
 Calls prog 18 #[.agg #[.slice a fs.length cap]] w fun e w'=>(∃ b:Bool,e=.returned (.bool b)/\(b=true↔X3 fs))/\Below w.heap.size w w':=by
 obtain ⟨b,f,Y⟩:=Y8 Z;have HC:=Q0 Y;clear Y Z;by_cases hbig:40<fs.length
 · go_enter func18,ntmps18
   go_wp2;go_ret;exact ⟨⟨false,rfl,by simp [X3];omega⟩,bA⟩
 go_enter func18,ntmps18
 go_wp2_with fail
 go_loopw [12] (fun i wr=>∃ k:Nat,k<=fs.length/\i=.int .i64 k/\Below w.heap.size w wr/\wr.cell? ⟨w.heap.size,0,none⟩=some (.slice a fs.length cap)/\w.heap.size+1<=wr.heap.size/\Hid (∀ j,j<k->r_ fs j=true)) (fun i _=>fs.length - (intOf i).toNat)
 case atStart=>exact ⟨0,I5 _,rfl,bA,X0,X0,fun j h=>absurd h (F5 _)⟩
 obtain ⟨k,hk,rfl,C,F,hz,U⟩:=hrel;by_cases B:k<fs.length;rotate_left
 · have L:Hid (X3 fs):=⟨O0,fun j X=>U.out j O0⟩
   go_wp2;go_ret;exact ⟨⟨true,rfl,by simp only [true_iff];exact L.out⟩,C⟩
 rcases HC.out with hss | ⟨ha,O,N⟩
 · rw [hss] at B;exact absurd B (F5 _)
 subst ha;have o:=Q0 C;have g0:=(C.cell (p:=⟨b,f+k*2,none⟩) O).trans (N k B).1;have g1:=(C.cell (p:=⟨b,f+k*2+1,none⟩) O).trans (N k B).2;have P:=D7 O C.size;have H:Hid ((fs.getD k P6).le 1048700):=⟨Z4 (V k).1 O0,Z4 (V k).2 O0⟩;rcases Xg k with h0 | h0
 · subst h0
   have n:Hid (r_ fs 0=V9 (fs.getD 0 P6)):=by simp [r_,Hid]
   simp only [jk,Nh] at g0 g1;generalize fs.getD 0 P6=x at*;clear N C;cases hx:V9 x
   · go_wp2_with fail
     have g:Hid (Below wr.heap.size wr (wr.alloc (.cells #[.string x.nm,.string x.tx] 39))):=bA;have t1:=(g.out.cell (p:=⟨w.heap.size,0,none⟩) (by show w.heap.size<wr.heap.size;omega)).trans F;have z:(wr.alloc (.cells #[.string x.nm,.string x.tx] 39)).cell? ⟨wr.heap.size,0,none⟩=some (.string x.nm):=X0;have v:(wr.alloc (.cells #[.string x.nm,.string x.tx] 39)).cell? ⟨wr.heap.size,1,none⟩=some (.string x.tx):=X0;have m:wr.heap.size<(wr.alloc (.cells #[.string x.nm,.string x.tx] 39)).heap.size:=X0;generalize (wr.alloc (.cells #[.string x.nm,.string x.tx] 39))=W at*;have r:w.heap.size<W.heap.size:=O0;have A:b<W.heap.size:=O0;refine F7 (S:=(fun u=>u.cell? ⟨w.heap.size,0,none⟩=some (.slice (some ⟨b,f,none⟩) fs.length cap)/\u.cell? ⟨wr.heap.size,0,none⟩=some (.string x.nm)/\u.cell? ⟨wr.heap.size,1,none⟩=some (.string x.tx))) U2 ?_ fun c=>?_
     · ((try dsimp only);go_keep)
     refine I4 0 c ?_;refine rq 1 fun K l=>?_;go_simp;refine (GD hx _ H.out).mono ?_;rintro e w1 ⟨rfl,s⟩;have d:Hid (Below W.heap.size W w1):=((F4 _ _).drew).trans s;have E:=(d.out.cell (p:=⟨w.heap.size,0,none⟩) r).trans t1;have J:=(d.out.cell (p:=⟨wr.heap.size,0,none⟩) m).trans z;have I:=(d.out.cell (p:=⟨wr.heap.size,1,none⟩) m).trans v
     go_wp2_with fail
     clear c;refine Ls l fun c=>?_;clear l K;refine tq 2 c ?_;refine I4 3 c ?_;refine uq 4 c ?_;refine I8 5 c ?_;refine uq 6 c ?_;refine I8 7 c ?_;refine uq 8 c ?_;refine I8 9 c ?_;refine uq 10 c ?_;refine I8 11 c ?_;refine uq 12 c ?_;refine I8 13 c ?_;refine uq 14 c ?_;refine I8 15 c ?_;refine uq 16 c ?_;refine I8 17 c ?_;refine I4 18 c ?_;refine a_ ?_;have t:=o.out.trans ((g.out.trans (d.out.mono O0)).mono o.out.size);rw [hx] at n;clear c;go_wp2;go_ret;exact ⟨⟨false,rfl,by simp only [I_,Yi];intro h;have:=h.2 _ B;rw [n.out] at this;cases this⟩,t⟩
   go_wp2_with fail
   have g:Hid (Below wr.heap.size wr (wr.alloc (.cells #[.string x.nm,.string x.tx] 39))):=bA;have t1:=(g.out.cell (p:=⟨w.heap.size,0,none⟩) (by show w.heap.size<wr.heap.size;omega)).trans F;have z:(wr.alloc (.cells #[.string x.nm,.string x.tx] 39)).cell? ⟨wr.heap.size,0,none⟩=some (.string x.nm):=X0;have v:(wr.alloc (.cells #[.string x.nm,.string x.tx] 39)).cell? ⟨wr.heap.size,1,none⟩=some (.string x.tx):=X0;have m:wr.heap.size<(wr.alloc (.cells #[.string x.nm,.string x.tx] 39)).heap.size:=X0;generalize (wr.alloc (.cells #[.string x.nm,.string x.tx] 39))=W at*;have r:w.heap.size<W.heap.size:=O0;have A:b<W.heap.size:=O0;refine F7 (S:=(fun u=>u.cell? ⟨w.heap.size,0,none⟩=some (.slice (some ⟨b,f,none⟩) fs.length cap)/\u.cell? ⟨wr.heap.size,0,none⟩=some (.string x.nm)/\u.cell? ⟨wr.heap.size,1,none⟩=some (.string x.tx))) U2 ?_ fun c=>?_
   · ((try dsimp only);go_keep)
   refine I4 0 c ?_;refine rq 1 fun K l=>?_;go_simp;refine (GD hx _ H.out).mono ?_;rintro e w1 ⟨rfl,s⟩;have d:Hid (Below W.heap.size W w1):=((F4 _ _).drew).trans s;have E:=(d.out.cell (p:=⟨w.heap.size,0,none⟩) r).trans t1;have J:=(d.out.cell (p:=⟨wr.heap.size,0,none⟩) m).trans z;have I:=(d.out.cell (p:=⟨wr.heap.size,1,none⟩) m).trans v
   go_wp2_with fail
   clear c;refine Ls l fun c=>?_;clear l K;refine tq 2 c ?_;refine I4 3 c ?_;refine tq 4 c ?_;refine I4 5 c ?_;refine tq 6 c ?_;refine I8 7 c ?_;refine uq 8 c ?_;refine I8 9 c ?_;refine uq 10 c ?_;refine I8 11 c ?_;refine uq 12 c ?_;refine I8 13 c ?_;refine uq 14 c ?_;refine I8 15 c ?_;refine uq 16 c ?_;refine I4 17 c ?_;refine I4 18 c ?_;refine a_ ?_;have t:=o.out.trans ((g.out.trans (d.out.mono O0)).mono o.out.size);have R:w.heap.size+1<=w1.heap.size:=by have:=d.out.size;omega
   rw [hx] at n;have L:Hid (∀ j,j<0+1->r_ fs j=true):=fun j X=>by
    rcases U5 j 0 with h | h
    · exact U.out j h
    obtain rfl:j=0:=O0;exact n.out
   clear c;go_wp2;go_roundw
   case rel=>exact ⟨0+1,O0,by go_num,t,E,R,L⟩
   case measure=>simp [intOf];omega
 obtain ⟨q,hq⟩:∃ q,q+1=k:=⟨k - 1,O0⟩;have g2:=(C.cell (p:=⟨b,f+q*2,none⟩) O).trans (N q O0).1;have n:Hid (r_ fs k=(V9 (fs.getD k P6)&&Op.bytesLess (fs.getD q P6).nm.toList (fs.getD k P6).nm.toList)):=by
  have e1:decide (k=0)=false:=Oh O0;have e2:k - 1=q:=O0;unfold r_;rw [e1,e2];rfl
 have hm0:(0:Int)<(k:Int):=O0;have hm1:=Xm hm0;generalize fs.getD k P6=x at*;generalize fs.getD q P6=y at*;have hwr:IntKind.i64.wrap ((k:Int) - 1)=(q:Int):=by rw [show (k:Int) - 1=(q:Int) by omega];exact Jl q O0
 have zT:(q:Int)<(fs.length:Int):=O0;clear hq;clear N C;cases hx:V9 x
 · cases hy:Op.bytesLess y.nm.toList x.nm.toList
   · go_wp2_with fail
     have g:Hid (Below wr.heap.size wr (wr.alloc (.cells #[.string x.nm,.string x.tx] 39))):=bA;have t1:=(g.out.cell (p:=⟨w.heap.size,0,none⟩) (by show w.heap.size<wr.heap.size;omega)).trans F;have D:=(g.out.cell (p:=⟨b,f+q*2,none⟩) P).trans g2;have z:(wr.alloc (.cells #[.string x.nm,.string x.tx] 39)).cell? ⟨wr.heap.size,0,none⟩=some (.string x.nm):=X0;have v:(wr.alloc (.cells #[.string x.nm,.string x.tx] 39)).cell? ⟨wr.heap.size,1,none⟩=some (.string x.tx):=X0;have m:wr.heap.size<(wr.alloc (.cells #[.string x.nm,.string x.tx] 39)).heap.size:=X0;generalize (wr.alloc (.cells #[.string x.nm,.string x.tx] 39))=W at*;have r:w.heap.size<W.heap.size:=O0;have A:b<W.heap.size:=O0;refine F7 (S:=(fun u=>u.cell? ⟨w.heap.size,0,none⟩=some (.slice (some ⟨b,f,none⟩) fs.length cap)/\u.cell? ⟨wr.heap.size,0,none⟩=some (.string x.nm)/\u.cell? ⟨wr.heap.size,1,none⟩=some (.string x.tx)/\u.cell? ⟨b,f+q*2,none⟩=some (.string y.nm))) U2 ?_ fun c=>?_
     · ((try dsimp only);go_keep)
     refine I4 0 c ?_;refine rq 1 fun K l=>?_;go_simp;refine (GD hx _ H.out).mono ?_;rintro e w1 ⟨rfl,s⟩;have d:Hid (Below W.heap.size W w1):=((F4 _ _).drew).trans s;have E:=(d.out.cell (p:=⟨w.heap.size,0,none⟩) r).trans t1;have J:=(d.out.cell (p:=⟨wr.heap.size,0,none⟩) m).trans z;have I:=(d.out.cell (p:=⟨wr.heap.size,1,none⟩) m).trans v;have Q:=(d.out.cell (p:=⟨b,f+q*2,none⟩) A).trans D
     go_wp2_with fail
     clear c;refine Ls l fun c=>?_;clear l K;refine tq 2 c ?_;refine I4 3 c ?_;refine uq 4 c ?_;refine I8 5 c ?_;refine uq 6 c ?_;refine I8 7 c ?_;refine uq 8 c ?_;refine I8 9 c ?_;refine uq 10 c ?_;refine I8 11 c ?_;refine uq 12 c ?_;refine I8 13 c ?_;refine uq 14 c ?_;refine I8 15 c ?_;refine uq 16 c ?_;refine I8 17 c ?_;refine I4 18 c ?_;refine a_ ?_;have t:=o.out.trans ((g.out.trans (d.out.mono O0)).mono o.out.size);rw [hx,hy] at n;clear c;go_wp2;go_ret;exact ⟨⟨false,rfl,by simp only [I_,Yi];intro h;have:=h.2 _ B;rw [n.out] at this;cases this⟩,t⟩
   go_wp2_with fail
   have g:Hid (Below wr.heap.size wr (wr.alloc (.cells #[.string x.nm,.string x.tx] 39))):=bA;have t1:=(g.out.cell (p:=⟨w.heap.size,0,none⟩) (by show w.heap.size<wr.heap.size;omega)).trans F;have D:=(g.out.cell (p:=⟨b,f+q*2,none⟩) P).trans g2;have z:(wr.alloc (.cells #[.string x.nm,.string x.tx] 39)).cell? ⟨wr.heap.size,0,none⟩=some (.string x.nm):=X0;have v:(wr.alloc (.cells #[.string x.nm,.string x.tx] 39)).cell? ⟨wr.heap.size,1,none⟩=some (.string x.tx):=X0;have m:wr.heap.size<(wr.alloc (.cells #[.string x.nm,.string x.tx] 39)).heap.size:=X0;generalize (wr.alloc (.cells #[.string x.nm,.string x.tx] 39))=W at*;have r:w.heap.size<W.heap.size:=O0;have A:b<W.heap.size:=O0;refine F7 (S:=(fun u=>u.cell? ⟨w.heap.size,0,none⟩=some (.slice (some ⟨b,f,none⟩) fs.length cap)/\u.cell? ⟨wr.heap.size,0,none⟩=some (.string x.nm)/\u.cell? ⟨wr.heap.size,1,none⟩=some (.string x.tx)/\u.cell? ⟨b,f+q*2,none⟩=some (.string y.nm))) U2 ?_ fun c=>?_
   · ((try dsimp only);go_keep)
   refine I4 0 c ?_;refine rq 1 fun K l=>?_;go_simp;refine (GD hx _ H.out).mono ?_;rintro e w1 ⟨rfl,s⟩;have d:Hid (Below W.heap.size W w1):=((F4 _ _).drew).trans s;have E:=(d.out.cell (p:=⟨w.heap.size,0,none⟩) r).trans t1;have J:=(d.out.cell (p:=⟨wr.heap.size,0,none⟩) m).trans z;have I:=(d.out.cell (p:=⟨wr.heap.size,1,none⟩) m).trans v;have Q:=(d.out.cell (p:=⟨b,f+q*2,none⟩) A).trans D
   go_wp2_with fail
   clear c;refine Ls l fun c=>?_;clear l K;refine tq 2 c ?_;refine I4 3 c ?_;refine uq 4 c ?_;refine I8 5 c ?_;refine uq 6 c ?_;refine I8 7 c ?_;refine uq 8 c ?_;refine I8 9 c ?_;refine uq 10 c ?_;refine I8 11 c ?_;refine uq 12 c ?_;refine I8 13 c ?_;refine uq 14 c ?_;refine I8 15 c ?_;refine uq 16 c ?_;refine I8 17 c ?_;refine I4 18 c ?_;refine a_ ?_;have t:=o.out.trans ((g.out.trans (d.out.mono O0)).mono o.out.size);rw [hx,hy] at n;clear c;go_wp2;go_ret;exact ⟨⟨false,rfl,by simp only [I_,Yi];intro h;have:=h.2 _ B;rw [n.out] at this;cases this⟩,t⟩
 cases hy:Op.bytesLess y.nm.toList x.nm.toList
 · go_wp2_with fail
   have g:Hid (Below wr.heap.size wr (wr.alloc (.cells #[.string x.nm,.string x.tx] 39))):=bA;have t1:=(g.out.cell (p:=⟨w.heap.size,0,none⟩) (by show w.heap.size<wr.heap.size;omega)).trans F;have D:=(g.out.cell (p:=⟨b,f+q*2,none⟩) P).trans g2;have z:(wr.alloc (.cells #[.string x.nm,.string x.tx] 39)).cell? ⟨wr.heap.size,0,none⟩=some (.string x.nm):=X0;have v:(wr.alloc (.cells #[.string x.nm,.string x.tx] 39)).cell? ⟨wr.heap.size,1,none⟩=some (.string x.tx):=X0;have m:wr.heap.size<(wr.alloc (.cells #[.string x.nm,.string x.tx] 39)).heap.size:=X0;generalize (wr.alloc (.cells #[.string x.nm,.string x.tx] 39))=W at*;have r:w.heap.size<W.heap.size:=O0;have A:b<W.heap.size:=O0;refine F7 (S:=(fun u=>u.cell? ⟨w.heap.size,0,none⟩=some (.slice (some ⟨b,f,none⟩) fs.length cap)/\u.cell? ⟨wr.heap.size,0,none⟩=some (.string x.nm)/\u.cell? ⟨wr.heap.size,1,none⟩=some (.string x.tx)/\u.cell? ⟨b,f+q*2,none⟩=some (.string y.nm))) U2 ?_ fun c=>?_
   · ((try dsimp only);go_keep)
   refine I4 0 c ?_;refine rq 1 fun K l=>?_;go_simp;refine (GD hx _ H.out).mono ?_;rintro e w1 ⟨rfl,s⟩;have d:Hid (Below W.heap.size W w1):=((F4 _ _).drew).trans s;have E:=(d.out.cell (p:=⟨w.heap.size,0,none⟩) r).trans t1;have J:=(d.out.cell (p:=⟨wr.heap.size,0,none⟩) m).trans z;have I:=(d.out.cell (p:=⟨wr.heap.size,1,none⟩) m).trans v;have Q:=(d.out.cell (p:=⟨b,f+q*2,none⟩) A).trans D
   go_wp2_with fail
   clear c;refine Ls l fun c=>?_;clear l K;refine tq 2 c ?_;refine I4 3 c ?_;refine tq 4 c ?_;refine I4 5 c ?_;refine tq 6 c ?_;refine I4 7 c ?_;refine tq 8 c ?_;refine I4 9 c ?_;refine tq 10 c ?_;refine I4 11 c ?_;refine tq 12 c ?_;refine I4 13 c ?_;refine tq 14 c ?_;refine I4 15 c ?_;refine tq 16 c ?_;refine I4 17 c ?_;refine I4 18 c ?_;refine a_ ?_;have t:=o.out.trans ((g.out.trans (d.out.mono O0)).mono o.out.size);rw [hx,hy] at n;clear c;go_wp2;go_ret;exact ⟨⟨false,rfl,by simp only [I_,Yi];intro h;have:=h.2 _ B;rw [n.out] at this;cases this⟩,t⟩
 go_wp2_with fail
 have g:Hid (Below wr.heap.size wr (wr.alloc (.cells #[.string x.nm,.string x.tx] 39))):=bA;have t1:=(g.out.cell (p:=⟨w.heap.size,0,none⟩) (by show w.heap.size<wr.heap.size;omega)).trans F;have D:=(g.out.cell (p:=⟨b,f+q*2,none⟩) P).trans g2;have z:(wr.alloc (.cells #[.string x.nm,.string x.tx] 39)).cell? ⟨wr.heap.size,0,none⟩=some (.string x.nm):=X0;have v:(wr.alloc (.cells #[.string x.nm,.string x.tx] 39)).cell? ⟨wr.heap.size,1,none⟩=some (.string x.tx):=X0;have m:wr.heap.size<(wr.alloc (.cells #[.string x.nm,.string x.tx] 39)).heap.size:=X0;generalize (wr.alloc (.cells #[.string x.nm,.string x.tx] 39))=W at*;have r:w.heap.size<W.heap.size:=O0;have A:b<W.heap.size:=O0;refine F7 (S:=(fun u=>u.cell? ⟨w.heap.size,0,none⟩=some (.slice (some ⟨b,f,none⟩) fs.length cap)/\u.cell? ⟨wr.heap.size,0,none⟩=some (.string x.nm)/\u.cell? ⟨wr.heap.size,1,none⟩=some (.string x.tx)/\u.cell? ⟨b,f+q*2,none⟩=some (.string y.nm))) U2 ?_ fun c=>?_
 · ((try dsimp only);go_keep)
 refine I4 0 c ?_;refine rq 1 fun K l=>?_;go_simp;refine (GD hx _ H.out).mono ?_;rintro e w1 ⟨rfl,s⟩;have d:Hid (Below W.heap.size W w1):=((F4 _ _).drew).trans s;have E:=(d.out.cell (p:=⟨w.heap.size,0,none⟩) r).trans t1;have J:=(d.out.cell (p:=⟨wr.heap.size,0,none⟩) m).trans z;have I:=(d.out.cell (p:=⟨wr.heap.size,1,none⟩) m).trans v;have Q:=(d.out.cell (p:=⟨b,f+q*2,none⟩) A).trans D
 go_wp2_with fail
 clear c;refine Ls l fun c=>?_;clear l K;refine tq 2 c ?_;refine I4 3 c ?_;refine tq 4 c ?_;refine I4 5 c ?_;refine tq 6 c ?_;refine I4 7 c ?_;refine tq 8 c ?_;refine I4 9 c ?_;refine tq 10 c ?_;refine I4 11 c ?_;refine tq 12 c ?_;refine I4 13 c ?_;refine tq 14 c ?_;refine I4 15 c ?_;refine tq 16 c ?_;refine I4 17 c ?_;refine I4 18 c ?_;refine a_ ?_;have t:=o.out.trans ((g.out.trans (d.out.mono O0)).mono o.out.size);have R:w.heap.size+1<=w1.heap.size:=by have:=d.out.size;omega
 rw [hx,hy] at n;have L:Hid (∀ j,j<k+1->r_ fs j=true):=fun j X=>by
  rcases U5 j k with h | h
  · exact U.out j h
  obtain rfl:j=k:=O0;exact n.out
 clear c;go_wp2;go_roundw
 case rel=>exact ⟨k+1,O0,by go_num,t,E,R,L⟩
 case measure=>simp [intOf];omega
structure But (b:Nat) (w w':World):Prop where
 os:w'.os=w.os
 tape:w'.tape=w.tape
 output:w'.output=w.output
 size:w.heap.size<=w'.heap.size
 block:∀ k,k<w.heap.size->k≠b->w'.heap[k]?=w.heap[k]?
theorem But.refl (b:Nat) (w:World):But b w w:=⟨rfl,rfl,rfl,Q6 _,fun _ _ _=>rfl⟩
theorem But.of_below {b:Nat} {w w':World} (h:Below w.heap.size w w'):But b w w':=⟨h.os,h.tape,h.output,h.size,fun k a _=>h.block k a⟩
theorem But.below {b B:Nat} {w w':World} (h:But b w w') (hB:B<=b) (hz:B<=w.heap.size):Below B w w':=⟨h.os,h.tape,h.output,h.size,fun k hk=>h.block k O0 O0⟩
theorem But.cell {b:Nat} {w w':World} (h:But b w w') {p:Addr} (a:p.block<w.heap.size) (c:p.block≠b):w'.cell? p=w.cell? p:=by
 unfold World.cell?;rw [h.block p.block a c]
theorem RB:∀ (a b:List UInt8),Lib.compareBytes a b<0↔Op.bytesLess a b=true
 | [],[]=>by simp [Lib.compareBytes,Op.bytesLess]
 | [],_::_=>by simp [Lib.compareBytes,Op.bytesLess]
 | _::_,[]=>by simp [Lib.compareBytes,Op.bytesLess]
 | x::a,y::b=>by
  have c:=RB a b;simp only [Lib.compareBytes,Op.bytesLess];by_cases h1:x<y
  · simp [h1]
  by_cases h2:y<x
  · have h3:¬ x=y:=fun e=>by subst e;exact LA x h2
    simp [h1,h2,h3]
  have h3:=UInt8.le_antisymm (au.1 h2) (au.1 h1);subst h3;simp [h1,c]
theorem Fy:∀ (a b:List UInt8),Lib.compareBytes a b=0↔a=b
 | [],[]=>by simp [Lib.compareBytes]
 | [],_::_=>by simp [Lib.compareBytes]
 | _::_,[]=>by simp [Lib.compareBytes]
 | x::a,y::b=>by
  have c:=Fy a b;simp only [Lib.compareBytes];by_cases h1:x<y
  · have h3:¬ x=y:=fun e=>by subst e;exact LA x h1
    simp [h1,h3]
  by_cases h2:y<x
  · have h3:¬ x=y:=fun e=>by subst e;exact LA x h2
    simp [h1,h2,h3]
  have h3:=UInt8.le_antisymm (au.1 h2) (au.1 h1);subst h3;simp [h1,c]
def lt (a b:ByteArray):Bool:=Op.bytesLess a.toList b.toList
def Ij (a b:ByteArray):Int:=Lib.compareBytes a.data.toList b.data.toList
theorem Fe (a b:ByteArray):Ij a b<0↔lt a b=true:=by
 unfold Ij lt;rw [RB,I7,I7]
theorem Km (a b:ByteArray):Ij a b=0↔a=b:=by
 unfold Ij;rw [Fy];exact ⟨fun h=>Hd (ag.1 h),fun h=>by rw [h]⟩
theorem RQ (a b:ByteArray) (w:World):
 Calls prog 78 #[.string a,.string b] w fun e w'=>e=.returned (.int .i64 (Ij a b))/\w'=w:=by
 have hrun:∀ u:World,(callFunc 116 #[.string a,.string b]).run prog u=.ok (.value (.int .i64 (Ij a b))) u:=fun u=>by
  rw [Tu func116 U2 U2 U2 (e:=Extern.BytealgCompare.compare) U2,Lib.run_compareString];rfl
 go_enter func78,ntmps78;go_wp2;go_ret;exact ⟨rfl,rfl⟩
theorem BM (a b:ByteArray) (w:World):
 Calls prog 50 #[.string a,.string b] w fun e w'=>e=.returned (.int .i64 (Ij a b))/\w'=w:=by
 go_enter func50,ntmps50
 go_wp2_with fail
 refine (RQ a b _).mono ?_;rintro e w1 ⟨rfl,hw⟩;obtain rfl:=hw.symm;go_wp2;go_ret;exact ⟨rfl,rfl⟩
theorem QM (x:F2) (b:ByteArray) (w:World):
 Calls prog 132 #[.agg #[.string x.nm,.string x.tx],.string b] w fun e w'=>e=.returned (.int .i64 (Ij x.nm b))/\Below w.heap.size w w':=by
 go_enter func132,ntmps132
 go_wp2_with fail
 refine (BM x.nm b _).mono ?_;rintro e w1 ⟨rfl,hw⟩;obtain rfl:=hw.symm;go_wp2;go_ret;exact ⟨rfl,bA⟩
theorem Lh:∀ (a b c:List UInt8),Op.bytesLess a b=true->Op.bytesLess b c=true->Op.bytesLess a c=true
 | _,[],_,h,_=>by simp [Op.bytesLess] at h
 | _,_::_,[],_,h=>by simp [Op.bytesLess] at h
 | [],_::_,_::_,_,_=>by simp [Op.bytesLess]
 | x::a,y::b,z::c,h,k=>by
  have d:=Lh a b c;simp only [Op.bytesLess,Rl,V7,Q_,Vf] at h k ⊢;rcases h with h | ⟨rfl,h⟩
  · rcases k with k | ⟨rfl,k⟩
    · exact .inl (UInt8.lt_trans h k)
    exact .inl h
  rcases k with k | ⟨rfl,k⟩
  · exact .inl k
  exact .inr ⟨rfl,d h k⟩
theorem Eo:∀ (a:List UInt8),Op.bytesLess a a=false
 | []=>by simp [Op.bytesLess]
 | x::a=>by simp [Op.bytesLess,Eo a]
theorem F_ {a b c:ByteArray} (h:lt a b=true) (k:lt b c=true):lt a c=true:=Lh _ _ _ h k
theorem N_ (a:ByteArray):lt a a=false:=Eo _
structure Place (fs:List F2) (t:ByteArray) (p:Nat) (f:Bool):Prop where
 le:p<=fs.length
 less:∀ j,j<p->lt (fs.getD j P6).nm t=true
 more:∀ j,p<=j->j<fs.length->lt (fs.getD j P6).nm t=false
 here:f=true↔p<fs.length/\(fs.getD p P6).nm=t
def Asc (fs:List F2):Prop:=∀ i j,i<j->j<fs.length->lt (fs.getD i P6).nm (fs.getD j P6).nm=true
def Half (fs:List F2) (t:ByteArray) (i j:Nat):Prop:=(∀ q,q<i->lt (fs.getD q P6).nm t=true)/\∀ q,j<=q->q<fs.length->lt (fs.getD q P6).nm t=false
theorem kJ {fs:List F2} {t:ByteArray} {i j h:Nat} (a:Asc fs) (c:Half fs t i j) (b:h<fs.length) (hx:lt (fs.getD h P6).nm t=true):Half fs t (h+1) j:=by
 refine ⟨fun q hq=>?_,c.2⟩;rcases U5 q h with h1 | h1
 · exact F_ (a q h h1 b) hx
 obtain rfl:q=h:=O0;exact hx
theorem YD {fs:List F2} {t:ByteArray} {i j h:Nat} (a:Asc fs) (c:Half fs t i j) (hx:lt (fs.getD h P6).nm t=false):Half fs t i h:=by
 refine ⟨c.1,fun q hq b=>?_⟩;rcases U5 h q with h1 | h1
 · cases hc:lt (fs.getD q P6).nm t
   · rfl
   rw [F_ (a h q h1 b) hc] at hx;cases hx
 obtain rfl:q=h:=O0;exact hx
theorem c131 (a:Option Addr) (cap:Nat) (fs:List F2) (t:ByteArray) (w:World) (hl:fs.length<=40) (I:F3 w a fs) (F:Asc fs):
 Calls prog 131 #[.slice a fs.length cap,.string t,.func (.func 132) #[] #[]] w fun e w'=>(∃ p f,e=.returned (.tuple #[.int .i64 (p:Nat),.bool f])/\Place fs t p f)/\Below w.heap.size w w':=by
 obtain ⟨b,r,m⟩:=Y8 I;have K:=Q0 m;have J:=Q0 F;clear m I F;go_enter func131,ntmps131
 go_wp2_with fail
 go_loopw [9,10] (fun v u wr=>∃ i j:Nat,i<=j/\j<=fs.length/\v=.int .i64 i/\u=.int .i64 j/\Below w.heap.size w wr/\Hid (Half fs t i j)) (fun v u _=>(intOf u).toNat - (intOf v).toNat)
 case atStart=>exact ⟨0,fs.length,I5 _,Q6 _,rfl,rfl,F4 _ _,⟨fun q h=>absurd h (F5 _),fun q h k=>O0⟩⟩
 obtain ⟨i,j,hij,H,rfl,rfl,d,g⟩:=hrel;by_cases hlt:i<j;rotate_left
 · obtain rfl:i=j:=O0
   by_cases l:i<fs.length;rotate_left
   · have D:Hid (Place fs t i false):=⟨O0,g.out.1,g.out.2,J4⟩
     have hd:decide ((i:Int)<(fs.length:Int))=false:=Oh O0;go_wp2
     all_goals go_ret2
     all_goals exact ⟨⟨i,false,rfl,D.out⟩,d⟩
   rcases K.out with y | ⟨B,n,c⟩
   · rw [y] at l;exact absurd l (F5 _)
   subst B;have g0:=(d.cell (p:=⟨b,r+i*2,none⟩) n).trans (c i l).1;have g1:=(d.cell (p:=⟨b,r+i*2+1,none⟩) n).trans (c i l).2;have D:Hid (∀ f:Bool,(f=true↔(fs.getD i P6).nm=t)->Place fs t i f):=fun f L=>⟨O0,g.out.1,g.out.2,L.trans ⟨fun h=>⟨l,h⟩,fun h=>h.2⟩⟩;generalize fs.getD i P6=x at*;clear c
   go_wp2_with fail
   refine (QM x t wr).mono ?_;rintro e w1 ⟨rfl,o⟩;have s:=bT d o;go_wp2
   all_goals go_ret2
   all_goals exact ⟨⟨i,_,rfl,D.out _ (by rw [<- Km];simp)⟩,s⟩
 rcases K.out with y | ⟨B,n,c⟩
 · rw [y] at H;simp at H;omega
 subst B;have A:(i+j) / 2<fs.length:=O0;have g0:=(d.cell (p:=⟨b,r+(i+j) / 2*2,none⟩) n).trans (c _ A).1;have g1:=(d.cell (p:=⟨b,r+(i+j) / 2*2+1,none⟩) n).trans (c _ A).2;have C:Hid (lt (fs.getD ((i+j) / 2) P6).nm t=true->Half fs t ((i+j) / 2+1) j):=fun hx=>kJ J.out g.out A hx;have E:Hid (lt (fs.getD ((i+j) / 2) P6).nm t=false->Half fs t i ((i+j) / 2)):=fun hx=>YD J.out g.out hx;generalize fs.getD ((i+j) / 2) P6=x at*;clear c
 go_wp2_with fail
 refine (QM x t wr).mono ?_;rintro e w1 ⟨rfl,o⟩;have s:=bT d o;cases hx:lt x.nm t
 · have m:¬ Ij x.nm t<0:=fun h=>by rw [(Fe _ _).1 h] at hx;cases hx
   have hc1:=Oh m;have z:=Q0 (E.out hx);clear hx o C E;go_wp2;go_roundw
   case rel=>exact ⟨i,(i+j) / 2,O0,O0,rfl,by go_num,s,z⟩
   case measure=>simp [intOf];omega
 have m:=(Fe _ _).2 hx;have z:=Q0 (C.out hx);clear hx o C E;go_wp2;go_roundw
 case rel=>exact ⟨(i+j) / 2+1,j,O0,O0,by go_num,rfl,s,z⟩
 case measure=>simp [intOf];omega
theorem c93 (a:Option Addr) (cap:Nat) (fs:List F2) (t:ByteArray) (w:World) (h:fs.length<=40) (d:F3 w a fs) (c:Asc fs):
 Calls prog 93 #[.agg #[.slice a fs.length cap],.string t] w fun e w'=>(∃ p f,e=.returned (.tuple #[.int .i64 (p:Nat),.bool f])/\Place fs t p f)/\Below w.heap.size w w':=by
 have l:=Q0 d;have k:=Q0 c;have g:Below w.heap.size w (w.alloc (.cells #[.slice a fs.length cap] 25)):=bA;clear d c;go_enter func93,ntmps93
 go_wp2_with fail
 refine (c131 a cap fs t _ h (U0 l.out g) k.out).mono ?_;rintro e w1 ⟨⟨p,f,rfl,b⟩,i⟩;have j:=Q0 b;clear b;go_wp2;go_ret2;exact ⟨⟨p,f,rfl,j.out⟩,bT g i⟩
theorem di {fs:List F2} (h:X3 fs):Asc fs:=by
 have step:∀ j,j+1<fs.length->lt (fs.getD j P6).nm (fs.getD (j+1) P6).nm=true:=fun j a=>by
  have:=h.2 (j+1) a;unfold r_ at this;simp only [V7,Rl,Q_] at this;rcases this.2 with h | h
  · omega
  exact h
 intro i j hij
 induction j with
 | zero=>omega
 | succ j ih=>
  intro a;rcases U5 i j with h1 | h1
  · exact F_ (ih h1 O0) (step j a)
  obtain rfl:i=j:=O0;exact step i a
theorem bO (a:Option Addr) (cap:Nat) (fs:List F2) (nm:ByteArray) (w:World) (hl:fs.length<=1048576) (n:F3 w a fs):
 Calls prog 43 #[.agg #[.slice a fs.length cap],.string nm] w fun e w'=>(∃ r:Int,e=.returned (.int .i64 r)/\((r=-1/\∀ i,i<fs.length->(fs.getD i P6).nm≠nm)\/∃ i:Nat,r=i/\i<fs.length/\(fs.getD i P6).nm=nm))/\Below w.heap.size w w':=by
 obtain ⟨b,s,m⟩:=Y8 n;have A:=Q0 m;have d:Below w.heap.size w (w.alloc (.cells #[.slice a fs.length cap] 25)):=bA;clear m n;go_enter func43,ntmps43
 go_wp2_with fail
 go_loop [5] (fun i=>∃ k:Nat,k<=fs.length/\i=.int .i64 k/\Hid (∀ j,j<k->(fs.getD j P6).nm≠nm)) (fun i=>fs.length - (intOf i).toNat)
 case atStart=>exact ⟨0,I5 _,rfl,fun j h=>absurd h (F5 _)⟩
 obtain ⟨k,hk,rfl,f⟩:=hrel;by_cases c:k<fs.length;rotate_left
 · go_wp2
   go_ret;exact ⟨⟨-1,rfl,.inl ⟨rfl,fun i hi=>f.out i O0⟩⟩,d⟩
 rcases A.out with t | ⟨y,v,l⟩
 · rw [t] at c;exact absurd c (F5 _)
 subst y;have g0:=(d.cell (p:=⟨b,s+k*2,none⟩) v).trans (l k c).1;have q:Hid (∃ x,x=fs.getD k P6):=⟨_,rfl⟩;obtain ⟨x,hx⟩:=q.out;rw [<- hx] at g0;have o:=Q0 hx;clear l hx q;cases hq:(x.nm.toList==nm.toList)
 · have u:Hid (∀ j,j<k+1->(fs.getD j P6).nm≠nm):=fun j hj=>by
    rcases U5 j k with h | h
    · exact f.out j h
    obtain rfl:j=k:=O0;rw [<- o.out];intro e;rw [e] at hq;simp at hq
   go_wp2
   go_round
   case rel=>exact ⟨k+1,O0,by go_num,u⟩
   case measure=>simp [intOf];omega
 have g:x.nm=nm:=by
  have:=Vf.1 hq;rw [I7,I7] at this;exact Hd (ag.1 this)
 have z:Hid (∃ i:Nat,(k:Int)=i/\i<fs.length/\(fs.getD i P6).nm=nm):=⟨k,rfl,c,by rw [<- o.out];exact g⟩;clear g;go_wp2;go_ret;exact ⟨⟨_,rfl,.inr z.out⟩,d⟩
end Go.Proofs.YtdjaajjndfbpmaaGreatDoor.G.T
