import Derived.Test.YtdjaajjndfbpmaaGreatDoorZ47
set_option linter.unusedVariables false
namespace Go.Proofs.YtdjaajjndfbpmaaGreatDoor
open Go.RowKit
theorem nJ (w:World) (T:List I3):Da (w.alloc (.cells (J5 T).toArray 165)) (some ⟨w.heap.size,0,none⟩) T:=by
  rcases Xg T.length with h0 | h0
  · exact .inl (Ce.1 h0)
  · refine .inr ⟨w.heap.size,0,rfl,X0,fun i a=>?_⟩
    obtain ⟨h1,h2,h3⟩:=oh T i a;simp [h1,h2,h3]
def jq (T:List I3):Prop:=∀ i,(T.getD i A_).tx.size≤4000
def h_ (B:Nat) (w:World) (a:Option Addr) (T:List I3):Prop:=T=[]∨∃ b off,a=some ⟨b,off,none⟩∧B≤b∧b<w.heap.size∧∀ i,i<T.length→w.cell? ⟨b,off+i*3,none⟩=some (.int .i64 (T.getD i A_).op)∧w.cell? ⟨b,off+i*3+1,none⟩=some (.string (T.getD i A_).tx)∧w.cell? ⟨b,off+i*3+2,none⟩=some (.int .i64 (T.getD i A_).to)
theorem h_.to {B:Nat} {w:World} {a:Option Addr} {T:List I3} (h:h_ B w a T):Da w a T:=by
  rcases h with h | ⟨b,c,h1,_,h2,h3⟩
  · exact .inl h
  · exact .inr ⟨b,c,h1,h2,h3⟩
theorem h_.mono {B B':Nat} {w:World} {a:Option Addr} {T:List I3} (h:h_ B w a T) (hB:B'≤B):h_ B' w a T:=by
  rcases h with h | ⟨b,c,h1,h0,h2,h3⟩
  · exact .inl h
  · exact .inr ⟨b,c,h1,Z4 hB h0,h2,h3⟩
theorem h_.but {B q:Nat} {w w':World} {a:Option Addr} {T:List I3} (h:h_ B w a T) (c:But q w w') (hq:q<B):h_ B w' a T:=by
  rcases h with h | ⟨b,d,h1,h0,h2,h3⟩
  · exact .inl h
  · refine .inr ⟨b,d,h1,h0,D7 h2 c.size,fun i e=>?_⟩
    rw [c.cell (by exact h2) (by show b≠q;omega),c.cell (by exact h2) (by show b≠q;omega),c.cell (by exact h2) (by show b≠q;omega)];exact h3 i e
theorem h_.set {B X j:Nat} {v:Value} {w:World} {a:Option Addr} {T:List I3} (h:h_ B w a T) (hX:X<B):h_ B (w.setCell ⟨X,j,none⟩ v) a T:=by
  rcases h with h | ⟨b,c,h1,h0,h2,h3⟩
  · exact .inl h
  · have e:∀ k,(w.setCell ⟨X,j,none⟩ v).cell? ⟨b,k,none⟩=w.cell? ⟨b,k,none⟩:=fun k=>O_ _ _ _ _ (fun e=>by injection e with e _;omega)
    refine .inr ⟨b,c,h1,h0,by simpa using h2,fun i d=>?_⟩;rw [e,e,e];exact h3 i d
def sF (e:Ending) (w':World) (n B:Nat):Prop:=∃ (T:List I3) (a:Option Addr) (cap:Nat),e=.returned (.agg #[.slice a T.length cap])∧h_ B w' a T∧(1≤T.length∧T.length≤n)∧jq T
def Xh (op:Int):Obj:=.cells #[.int .i64 op,.string ⟨#[]⟩,.int .i64 0] 165
theorem Xa {w u:World} {op:Int} (h:Below (w.heap.size+1) (w.alloc (Xh op)) u):u.cell? ⟨w.heap.size,0,none⟩=some (.int .i64 op)∧u.cell? ⟨w.heap.size,1,none⟩=some (.string ⟨#[]⟩)∧u.cell? ⟨w.heap.size,2,none⟩=some (.int .i64 0):=by
  have e:∀ j,u.cell? ⟨w.heap.size,j,none⟩=(w.alloc (Xh op)).cell? ⟨w.heap.size,j,none⟩:=fun j=>h.cell X0;rw [e,e,e];unfold Xh;simp
structure V5 (u:World) (R B1 B2 B3 B4 B5:Nat):Prop where
  a:u.cell? ⟨B1,0,none⟩=some (.int .i64 2)∧u.cell? ⟨B1,1,none⟩=some (.string ⟨#[]⟩)∧u.cell? ⟨B1,2,none⟩=some (.int .i64 0)
  b:u.cell? ⟨B2,0,none⟩=some (.int .i64 3)∧u.cell? ⟨B2,1,none⟩=some (.string ⟨#[]⟩)∧u.cell? ⟨B2,2,none⟩=some (.int .i64 0)
  c:u.cell? ⟨B3,0,none⟩=some (.int .i64 5)∧u.cell? ⟨B3,1,none⟩=some (.string ⟨#[]⟩)∧u.cell? ⟨B3,2,none⟩=some (.int .i64 0)
  d:u.cell? ⟨B4,0,none⟩=some (.int .i64 10)∧u.cell? ⟨B4,1,none⟩=some (.string ⟨#[]⟩)∧u.cell? ⟨B4,2,none⟩=some (.int .i64 0)
  e:u.cell? ⟨B5,0,none⟩=some (.int .i64 7)∧u.cell? ⟨B5,1,none⟩=some (.string ⟨#[]⟩)∧u.cell? ⟨B5,2,none⟩=some (.int .i64 0)
  r:u.cell? ⟨R,0,none⟩=some (.slice none 0 0)∧u.frozen? ⟨R,0,none⟩=false
  z:B1<u.heap.size∧B2<u.heap.size∧B3<u.heap.size∧B4<u.heap.size∧B5<u.heap.size∧R<u.heap.size
theorem V5.later {u u':World} {R B1 B2 B3 B4 B5:Nat} (h:V5 u R B1 B2 B3 B4 B5) (f:Below u.heap.size u u'):V5 u' R B1 B2 B3 B4 B5:=by
  obtain ⟨a,b,c,d,e,r,l,k,j,i,g,z6⟩:=h;have hz:=f.size;refine ⟨?_,?_,?_,?_,?_,?_,O0,O0,O0,O0,O0,O0⟩
  · rw [f.cell (by exact l),f.cell (by exact l),f.cell (by exact l)];exact a
  · rw [f.cell (by exact k),f.cell (by exact k),f.cell (by exact k)];exact b
  · rw [f.cell (by exact j),f.cell (by exact j),f.cell (by exact j)];exact c
  · rw [f.cell (by exact i),f.cell (by exact i),f.cell (by exact i)];exact d
  · rw [f.cell (by exact g),f.cell (by exact g),f.cell (by exact g)];exact e
  · rw [f.cell (by exact z6),f.frozen (by exact z6)];exact r
theorem bg {w:World} {p:Addr} {v:Value} (a:p.block<w.heap.size) (h:w.cell? p=some v) (o:Obj):(w.alloc o).cell? p=some v:=by
  rw [((F4 w.heap.size w).alloc P9 o).cell a];exact h
theorem Qc (T:List I3) (U:World) (B a:Nat) (c:U.heap.size=B) (hB:a≤B):h_ a (U.alloc (.cells (J5 T).toArray 165)) (some ⟨B,0,none⟩) T:=by
  subst c;rcases Xg T.length with h0 | h0
  · exact .inl (Ce.1 h0)
  · refine .inr ⟨U.heap.size,0,rfl,hB,X0,fun i b=>?_⟩
    obtain ⟨h1,h2,h3⟩:=oh T i b;simp [h1,h2,h3]
theorem x_ {T:List I3} (h:(T.all fun x=>decide (x.tx.size≤4000))=true):jq T:=by
  refine Qo fun i a=>?_;rw [Nf] at h;have e:T.getD i A_=T[i]:=by simp [a]
  rw [e];simpa using h _ (Ea a)
set_option maxHeartbeats 8000000 in
set_option maxRecDepth 100000 in
theorem wO (k:Int) (w:World):
    Calls Tryz.prog 95 #[.int .i64 k] w fun e w'=>sF e w' 10 w.heap.size∧Below w.heap.size w w':=by
  go_enter Tryz.func95,Tryz.ntmps95
  go_wp2_with fail
  refine (lD 2 _).mono ?_;rintro e w1 ⟨rfl,hb1⟩
  go_wp2_with fail
  refine (lD 3 _).mono ?_;rintro e f ⟨rfl,hb2⟩
  go_wp2_with fail
  refine (lD 5 _).mono ?_;rintro e d ⟨rfl,hb3⟩
  go_wp2_with fail
  refine (lD 10 _).mono ?_;rintro e c ⟨rfl,hb4⟩
  go_wp2_with fail
  refine (lD 7 _).mono ?_;rintro e a ⟨rfl,hb5⟩;have s1:=hb1.size;have s2:=hb2.size;have s3:=hb3.size;have s4:=hb4.size;have s5:=hb5.size;simp at s1 s2 s3 s4 s5;have g1:Below (w.heap.size+1) (w.alloc (.cells #[.slice none 0 0] 126)) w1:=by have h:=hb1;simp at h;exact h
  have g2:Below (w1.heap.size+1) (w1.alloc (Xh 2)) f:=by have h:=hb2;simp at h;exact h
  have g3:Below (f.heap.size+1) (f.alloc (Xh 3)) d:=by have h:=hb3;simp at h;exact h
  have g4:Below (d.heap.size+1) (d.alloc (Xh 5)) c:=by have h:=hb4;simp at h;exact h
  have g5:Below (c.heap.size+1) (c.alloc (Xh 10)) a:=by have h:=hb5;simp at h;exact h
  have O:∀ (u:World) (o:Obj),Below u.heap.size u (u.alloc o):=fun u o=>bA;have S:Below c.heap.size c a:=(O c _).trans (g5.mono O0);have U:Below d.heap.size d a:=((O d _).trans (g4.mono O0)).trans (S.mono O0);have V:Below f.heap.size f a:=((O f _).trans (g3.mono O0)).trans (U.mono O0);have t2:Below w1.heap.size w1 a:=((O w1 _).trans (g2.mono O0)).trans (V.mono O0);have Q:Below (w.heap.size+1) (w.alloc (.cells #[.slice none 0 0] 126)) a:=g1.trans (t2.mono O0);have hBW:Below w.heap.size w a:=(O w _).trans (Q.mono O0);have I:Hid (V5 (a.alloc (Xh 7)) w.heap.size w1.heap.size f.heap.size d.heap.size c.heap.size a.heap.size):=by
    have P:=O a (Xh 7);refine ⟨Xa ((g2.trans (V.mono O0)).trans (P.mono O0)),Xa ((g3.trans (U.mono O0)).trans (P.mono O0)),Xa ((g4.trans (S.mono O0)).trans (P.mono O0)),Xa (g5.trans (P.mono O0)),Xa (F4 _ _),?_,J4⟩;rw [(Q.trans (P.mono O0)).cell X0,(Q.trans (P.mono O0)).frozen X0];simp
  have R:Hid (Below w.heap.size w a):=hBW;have X:Hid (Below w.heap.size w (a.alloc (Xh 7))):=hBW.alloc O0 _;obtain ⟨H,F,E⟩:=Xa (g2.trans (V.mono O0));obtain ⟨D,C,B⟩:=Xa (g3.trans (U.mono O0));obtain ⟨A,z,y⟩:=Xa (g4.trans (S.mono O0));obtain ⟨x,t,s⟩:=Xa g5;have i:a.cell? ⟨w.heap.size,0,none⟩=some (.slice none 0 0):=by rw [Q.cell X0];simp
  have r:a.frozen? ⟨w.heap.size,0,none⟩=false:=by rw [Q.frozen X0];simp
  have q:w1.heap.size<a.heap.size:=O0;have p:f.heap.size<a.heap.size:=O0;have n:d.heap.size<a.heap.size:=O0;have m:c.heap.size<a.heap.size:=O0;have z6:w.heap.size<a.heap.size:=O0;have n1:¬ w.heap.size=w1.heap.size:=O0;have m1:¬ w1.heap.size=w.heap.size:=O0;have n2:¬ w.heap.size=f.heap.size:=O0;have m2:¬ f.heap.size=w.heap.size:=O0;have n3:¬ w.heap.size=d.heap.size:=O0;have m3:¬ d.heap.size=w.heap.size:=O0;have n4:¬ w.heap.size=c.heap.size:=O0;have m4:¬ c.heap.size=w.heap.size:=O0;have n5:¬ w.heap.size=a.heap.size:=O0;have m5:¬ a.heap.size=w.heap.size:=O0;clear hb1 hb2 hb3 hb4 hb5 g1 g2 g3 g4 g5 t2 V U S Q hBW O s1 s2 s3 s4 s5;by_cases h0:k=0
  · subst h0
    go_wp2_with fail
    change Code.wp _ _ _ _ (a.alloc (Xh 7));clear H F E D C B A z y x t s i r q p n m z6;generalize (a.alloc (Xh 7))=W at*;obtain ⟨⟨H,F,E⟩,⟨D,C,B⟩,⟨A,z,y⟩,⟨x,t,s⟩,⟨p50,p51,p52⟩,⟨i,r⟩,q,p,n,m,Z,z6⟩:=I.out
    go_region_held3 (fun u=>(u.cell? ⟨w1.heap.size,0,none⟩=some (.int .i64 2)∧u.cell? ⟨w1.heap.size,1,none⟩=some (.string ⟨#[]⟩)∧u.cell? ⟨w1.heap.size,2,none⟩=some (.int .i64 0))∧(u.cell? ⟨f.heap.size,0,none⟩=some (.int .i64 3)∧u.cell? ⟨f.heap.size,1,none⟩=some (.string ⟨#[]⟩)∧u.cell? ⟨f.heap.size,2,none⟩=some (.int .i64 0))∧(u.cell? ⟨d.heap.size,0,none⟩=some (.int .i64 5)∧u.cell? ⟨d.heap.size,1,none⟩=some (.string ⟨#[]⟩)∧u.cell? ⟨d.heap.size,2,none⟩=some (.int .i64 0))∧(u.cell? ⟨c.heap.size,0,none⟩=some (.int .i64 10)∧u.cell? ⟨c.heap.size,1,none⟩=some (.string ⟨#[]⟩)∧u.cell? ⟨c.heap.size,2,none⟩=some (.int .i64 0))∧(u.cell? ⟨a.heap.size,0,none⟩=some (.int .i64 7)∧u.cell? ⟨a.heap.size,1,none⟩=some (.string ⟨#[]⟩)∧u.cell? ⟨a.heap.size,2,none⟩=some (.int .i64 0))) (go_keep) (first | (go_at_call 137;refine (uP 1 ⟨#[33]⟩ _).mono ?_;rintro e b ⟨rfl,L⟩;have j:Hid (Below W.heap.size W b):=(F4 _ _).drew.trans L;obtain ⟨⟨EY,FY,GY⟩,⟨IY,JY,KY⟩,⟨p30',p31',LY⟩,⟨NY,OY,PY⟩,⟨QY,p51',RY⟩,⟨K,pf'⟩,z1',z2',z3',z4',Y,J⟩:=I.out.later j.out))
    all_goals
      go_wp2;have g:=O7 b ⟨w.heap.size,0,none⟩ (.slice (some ⟨b.heap.size,0,none⟩) 7 7) K;have N:=fun o=>bg (by simpa using J) g o;refine K4 (v:=.agg #[.slice (some ⟨b.heap.size,0,none⟩) 7 7]) (by simp [results,Tryz.results95,go_sem,N]) rfl ⟨⟨[⟨2,⟨#[]⟩,0⟩,⟨7,⟨#[]⟩,0⟩,⟨3,⟨#[]⟩,0⟩,⟨5,⟨#[]⟩,0⟩,⟨1,⟨#[33]⟩,0⟩,⟨5,⟨#[]⟩,0⟩,⟨10,⟨#[]⟩,0⟩],some ⟨b.heap.size,0,none⟩,7,rfl,?_,K3,x_ rfl⟩,?_⟩
      · exact Qc [⟨2,⟨#[]⟩,0⟩,⟨7,⟨#[]⟩,0⟩,⟨3,⟨#[]⟩,0⟩,⟨5,⟨#[]⟩,0⟩,⟨1,⟨#[33]⟩,0⟩,⟨5,⟨#[]⟩,0⟩,⟨10,⟨#[]⟩,0⟩] _ _ _ X0 O0
      · exact ((bT X.out j.out).setCell X0 _).alloc J4 _
  by_cases h1:k=1
  · subst h1
    go_wp2_with fail
    go_wp2;have g:=O7 a ⟨w.heap.size,0,none⟩ (.slice (some ⟨a.heap.size+1,0,none⟩) 9 9) i;have l:=fun o o2=>bg J4 (bg (by simpa using z6) g o) o2;refine K4 (v:=.agg #[.slice (some ⟨a.heap.size+1,0,none⟩) 9 9]) (by simp [results,Tryz.results95,go_sem,l]) rfl ⟨⟨[⟨2,⟨#[]⟩,0⟩,⟨7,⟨#[]⟩,0⟩,⟨3,⟨#[]⟩,0⟩,⟨5,⟨#[]⟩,0⟩,⟨2,⟨#[]⟩,0⟩,⟨7,⟨#[]⟩,1⟩,⟨3,⟨#[]⟩,0⟩,⟨5,⟨#[]⟩,0⟩,⟨10,⟨#[]⟩,0⟩],some ⟨a.heap.size+1,0,none⟩,9,rfl,?_,K3,x_ rfl⟩,?_⟩
    · exact Qc [⟨2,⟨#[]⟩,0⟩,⟨7,⟨#[]⟩,0⟩,⟨3,⟨#[]⟩,0⟩,⟨5,⟨#[]⟩,0⟩,⟨2,⟨#[]⟩,0⟩,⟨7,⟨#[]⟩,1⟩,⟨3,⟨#[]⟩,0⟩,⟨5,⟨#[]⟩,0⟩,⟨10,⟨#[]⟩,0⟩] _ _ _ X0 O0
    · exact ((R.out.setCell X0 _).alloc J4 _).alloc J4 _
  by_cases h2:k=2
  · subst h2
    go_wp2_with fail
    go_wp2;have g:=O7 a ⟨w.heap.size,0,none⟩ (.slice (some ⟨a.heap.size+1,0,none⟩) 7 7) i;have l:=fun o o2=>bg J4 (bg (by simpa using z6) g o) o2;refine K4 (v:=.agg #[.slice (some ⟨a.heap.size+1,0,none⟩) 7 7]) (by simp [results,Tryz.results95,go_sem,l]) rfl ⟨⟨[⟨2,⟨#[]⟩,0⟩,⟨7,⟨#[]⟩,0⟩,⟨3,⟨#[]⟩,0⟩,⟨7,⟨#[]⟩,0⟩,⟨3,⟨#[]⟩,0⟩,⟨5,⟨#[]⟩,0⟩,⟨10,⟨#[]⟩,0⟩],some ⟨a.heap.size+1,0,none⟩,7,rfl,?_,K3,x_ rfl⟩,?_⟩
    · exact Qc [⟨2,⟨#[]⟩,0⟩,⟨7,⟨#[]⟩,0⟩,⟨3,⟨#[]⟩,0⟩,⟨7,⟨#[]⟩,0⟩,⟨3,⟨#[]⟩,0⟩,⟨5,⟨#[]⟩,0⟩,⟨10,⟨#[]⟩,0⟩] _ _ _ X0 O0
    · exact ((R.out.setCell X0 _).alloc J4 _).alloc J4 _
  by_cases h3:k=3
  · subst h3
    go_wp2_with fail
    change Code.wp _ _ _ _ (a.alloc (Xh 7));clear H F E D C B A z y x t s i r q p n m z6;generalize (a.alloc (Xh 7))=W at*;obtain ⟨⟨H,F,E⟩,⟨D,C,B⟩,⟨A,z,y⟩,⟨x,t,s⟩,⟨p50,p51,p52⟩,⟨i,r⟩,q,p,n,m,Z,z6⟩:=I.out
    go_region_held3 (fun u=>(u.cell? ⟨w1.heap.size,0,none⟩=some (.int .i64 2)∧u.cell? ⟨w1.heap.size,1,none⟩=some (.string ⟨#[]⟩)∧u.cell? ⟨w1.heap.size,2,none⟩=some (.int .i64 0))∧(u.cell? ⟨f.heap.size,0,none⟩=some (.int .i64 3)∧u.cell? ⟨f.heap.size,1,none⟩=some (.string ⟨#[]⟩)∧u.cell? ⟨f.heap.size,2,none⟩=some (.int .i64 0))∧(u.cell? ⟨d.heap.size,0,none⟩=some (.int .i64 5)∧u.cell? ⟨d.heap.size,1,none⟩=some (.string ⟨#[]⟩)∧u.cell? ⟨d.heap.size,2,none⟩=some (.int .i64 0))∧(u.cell? ⟨c.heap.size,0,none⟩=some (.int .i64 10)∧u.cell? ⟨c.heap.size,1,none⟩=some (.string ⟨#[]⟩)∧u.cell? ⟨c.heap.size,2,none⟩=some (.int .i64 0))∧(u.cell? ⟨a.heap.size,0,none⟩=some (.int .i64 7)∧u.cell? ⟨a.heap.size,1,none⟩=some (.string ⟨#[]⟩)∧u.cell? ⟨a.heap.size,2,none⟩=some (.int .i64 0))) (go_keep) (first | (go_at_call 96;refine (lD 4 _).mono ?_;rintro e b ⟨rfl,L⟩;have j:Hid (Below W.heap.size W b):=(F4 _ _).drew.trans L;obtain ⟨⟨EY,FY,GY⟩,⟨IY,JY,KY⟩,⟨p30',p31',LY⟩,⟨NY,OY,PY⟩,⟨QY,p51',RY⟩,⟨K,pf'⟩,z1',z2',z3',z4',Y,J⟩:=I.out.later j.out))
    all_goals
      go_wp2;have g:=O7 b ⟨w.heap.size,0,none⟩ (.slice (some ⟨b.heap.size,0,none⟩) 9 9) K;have N:=fun o=>bg (by simpa using J) g o;refine K4 (v:=.agg #[.slice (some ⟨b.heap.size,0,none⟩) 9 9]) (by simp [results,Tryz.results95,go_sem,N]) rfl ⟨⟨[⟨2,⟨#[]⟩,0⟩,⟨7,⟨#[]⟩,0⟩,⟨4,⟨#[]⟩,0⟩,⟨8,⟨#[48]⟩,7⟩,⟨2,⟨#[]⟩,0⟩,⟨7,⟨#[]⟩,0⟩,⟨3,⟨#[]⟩,0⟩,⟨5,⟨#[]⟩,0⟩,⟨10,⟨#[]⟩,0⟩],some ⟨b.heap.size,0,none⟩,9,rfl,?_,K3,x_ rfl⟩,?_⟩
      · exact Qc [⟨2,⟨#[]⟩,0⟩,⟨7,⟨#[]⟩,0⟩,⟨4,⟨#[]⟩,0⟩,⟨8,⟨#[48]⟩,7⟩,⟨2,⟨#[]⟩,0⟩,⟨7,⟨#[]⟩,0⟩,⟨3,⟨#[]⟩,0⟩,⟨5,⟨#[]⟩,0⟩,⟨10,⟨#[]⟩,0⟩] _ _ _ X0 O0
      · exact ((bT X.out j.out).setCell X0 _).alloc J4 _
  by_cases h4:k=4
  · subst h4
    go_wp2_with fail
    go_wp2;have g:=O7 a ⟨w.heap.size,0,none⟩ (.slice (some ⟨a.heap.size+1,0,none⟩) 9 9) i;have l:=fun o o2=>bg J4 (bg (by simpa using z6) g o) o2;refine K4 (v:=.agg #[.slice (some ⟨a.heap.size+1,0,none⟩) 9 9]) (by simp [results,Tryz.results95,go_sem,l]) rfl ⟨⟨[⟨2,⟨#[]⟩,0⟩,⟨7,⟨#[]⟩,0⟩,⟨3,⟨#[]⟩,0⟩,⟨8,⟨#[118,49]⟩,7⟩,⟨2,⟨#[]⟩,0⟩,⟨7,⟨#[]⟩,1⟩,⟨3,⟨#[]⟩,0⟩,⟨5,⟨#[]⟩,0⟩,⟨10,⟨#[]⟩,0⟩],some ⟨a.heap.size+1,0,none⟩,9,rfl,?_,K3,x_ rfl⟩,?_⟩
    · exact Qc [⟨2,⟨#[]⟩,0⟩,⟨7,⟨#[]⟩,0⟩,⟨3,⟨#[]⟩,0⟩,⟨8,⟨#[118,49]⟩,7⟩,⟨2,⟨#[]⟩,0⟩,⟨7,⟨#[]⟩,1⟩,⟨3,⟨#[]⟩,0⟩,⟨5,⟨#[]⟩,0⟩,⟨10,⟨#[]⟩,0⟩] _ _ _ X0 O0
    · exact ((R.out.setCell X0 _).alloc J4 _).alloc J4 _
  by_cases h5:k=5
  · subst h5
    go_wp2_with fail
    change Code.wp _ _ _ _ (a.alloc (Xh 7));clear H F E D C B A z y x t s i r q p n m z6;generalize (a.alloc (Xh 7))=W at*;obtain ⟨⟨H,F,E⟩,⟨D,C,B⟩,⟨A,z,y⟩,⟨x,t,s⟩,⟨p50,p51,p52⟩,⟨i,r⟩,q,p,n,m,Z,z6⟩:=I.out
    go_region_held3 (fun u=>(u.cell? ⟨w1.heap.size,0,none⟩=some (.int .i64 2)∧u.cell? ⟨w1.heap.size,1,none⟩=some (.string ⟨#[]⟩)∧u.cell? ⟨w1.heap.size,2,none⟩=some (.int .i64 0))∧(u.cell? ⟨f.heap.size,0,none⟩=some (.int .i64 3)∧u.cell? ⟨f.heap.size,1,none⟩=some (.string ⟨#[]⟩)∧u.cell? ⟨f.heap.size,2,none⟩=some (.int .i64 0))∧(u.cell? ⟨d.heap.size,0,none⟩=some (.int .i64 5)∧u.cell? ⟨d.heap.size,1,none⟩=some (.string ⟨#[]⟩)∧u.cell? ⟨d.heap.size,2,none⟩=some (.int .i64 0))∧(u.cell? ⟨c.heap.size,0,none⟩=some (.int .i64 10)∧u.cell? ⟨c.heap.size,1,none⟩=some (.string ⟨#[]⟩)∧u.cell? ⟨c.heap.size,2,none⟩=some (.int .i64 0))∧(u.cell? ⟨a.heap.size,0,none⟩=some (.int .i64 7)∧u.cell? ⟨a.heap.size,1,none⟩=some (.string ⟨#[]⟩)∧u.cell? ⟨a.heap.size,2,none⟩=some (.int .i64 0))) (go_keep) (first | (go_at_call 96;refine (lD 11 _).mono ?_;rintro e b ⟨rfl,L⟩;have j:Hid (Below W.heap.size W b):=(F4 _ _).drew.trans L;obtain ⟨⟨EY,FY,GY⟩,⟨IY,JY,KY⟩,⟨p30',p31',LY⟩,⟨NY,OY,PY⟩,⟨QY,p51',RY⟩,⟨K,pf'⟩,z1',z2',z3',z4',Y,J⟩:=I.out.later j.out))
    all_goals
      go_wp2;have g:=O7 b ⟨w.heap.size,0,none⟩ (.slice (some ⟨b.heap.size,0,none⟩) 4 4) K;have N:=fun o=>bg (by simpa using J) g o;refine K4 (v:=.agg #[.slice (some ⟨b.heap.size,0,none⟩) 4 4]) (by simp [results,Tryz.results95,go_sem,N]) rfl ⟨⟨[⟨2,⟨#[]⟩,0⟩,⟨7,⟨#[]⟩,0⟩,⟨3,⟨#[]⟩,0⟩,⟨11,⟨#[]⟩,0⟩],some ⟨b.heap.size,0,none⟩,4,rfl,?_,K3,x_ rfl⟩,?_⟩
      · exact Qc [⟨2,⟨#[]⟩,0⟩,⟨7,⟨#[]⟩,0⟩,⟨3,⟨#[]⟩,0⟩,⟨11,⟨#[]⟩,0⟩] _ _ _ X0 O0
      · exact ((bT X.out j.out).setCell X0 _).alloc J4 _
  by_cases h6:k=6
  · subst h6
    go_wp2_with fail
    go_wp2;have g:=O7 a ⟨w.heap.size,0,none⟩ (.slice (some ⟨a.heap.size+1,0,none⟩) 2 2) i;have l:=fun o o2=>bg J4 (bg (by simpa using z6) g o) o2;refine K4 (v:=.agg #[.slice (some ⟨a.heap.size+1,0,none⟩) 2 2]) (by simp [results,Tryz.results95,go_sem,l]) rfl ⟨⟨[⟨2,⟨#[]⟩,0⟩,⟨9,⟨#[]⟩,0⟩],some ⟨a.heap.size+1,0,none⟩,2,rfl,?_,K3,x_ rfl⟩,?_⟩
    · exact Qc [⟨2,⟨#[]⟩,0⟩,⟨9,⟨#[]⟩,0⟩] _ _ _ X0 O0
    · exact ((R.out.setCell X0 _).alloc J4 _).alloc J4 _
  by_cases h7:k=7
  · subst h7
    go_wp2_with fail
    change Code.wp _ _ _ _ (a.alloc (Xh 7));clear H F E D C B A z y x t s i r q p n m z6;generalize (a.alloc (Xh 7))=W at*;obtain ⟨⟨H,F,E⟩,⟨D,C,B⟩,⟨A,z,y⟩,⟨x,t,s⟩,⟨p50,p51,p52⟩,⟨i,r⟩,q,p,n,m,Z,z6⟩:=I.out
    go_region_held3 (fun u=>(u.cell? ⟨w1.heap.size,0,none⟩=some (.int .i64 2)∧u.cell? ⟨w1.heap.size,1,none⟩=some (.string ⟨#[]⟩)∧u.cell? ⟨w1.heap.size,2,none⟩=some (.int .i64 0))∧(u.cell? ⟨f.heap.size,0,none⟩=some (.int .i64 3)∧u.cell? ⟨f.heap.size,1,none⟩=some (.string ⟨#[]⟩)∧u.cell? ⟨f.heap.size,2,none⟩=some (.int .i64 0))∧(u.cell? ⟨d.heap.size,0,none⟩=some (.int .i64 5)∧u.cell? ⟨d.heap.size,1,none⟩=some (.string ⟨#[]⟩)∧u.cell? ⟨d.heap.size,2,none⟩=some (.int .i64 0))∧(u.cell? ⟨c.heap.size,0,none⟩=some (.int .i64 10)∧u.cell? ⟨c.heap.size,1,none⟩=some (.string ⟨#[]⟩)∧u.cell? ⟨c.heap.size,2,none⟩=some (.int .i64 0))∧(u.cell? ⟨a.heap.size,0,none⟩=some (.int .i64 7)∧u.cell? ⟨a.heap.size,1,none⟩=some (.string ⟨#[]⟩)∧u.cell? ⟨a.heap.size,2,none⟩=some (.int .i64 0))) (go_keep) (first | (go_at_call 96;refine (lD 4 _).mono ?_;rintro e b ⟨rfl,L⟩;have j:Hid (Below W.heap.size W b):=(F4 _ _).drew.trans L;obtain ⟨⟨EY,FY,GY⟩,⟨IY,JY,KY⟩,⟨p30',p31',LY⟩,⟨NY,OY,PY⟩,⟨QY,p51',RY⟩,⟨K,pf'⟩,z1',z2',z3',z4',Y,J⟩:=I.out.later j.out))
    all_goals
      go_wp2;have g:=O7 b ⟨w.heap.size,0,none⟩ (.slice (some ⟨b.heap.size,0,none⟩) 4 4) K;have N:=fun o=>bg (by simpa using J) g o;refine K4 (v:=.agg #[.slice (some ⟨b.heap.size,0,none⟩) 4 4]) (by simp [results,Tryz.results95,go_sem,N]) rfl ⟨⟨[⟨2,⟨#[]⟩,0⟩,⟨7,⟨#[]⟩,0⟩,⟨4,⟨#[]⟩,0⟩,⟨9,⟨#[]⟩,0⟩],some ⟨b.heap.size,0,none⟩,4,rfl,?_,K3,x_ rfl⟩,?_⟩
      · exact Qc [⟨2,⟨#[]⟩,0⟩,⟨7,⟨#[]⟩,0⟩,⟨4,⟨#[]⟩,0⟩,⟨9,⟨#[]⟩,0⟩] _ _ _ X0 O0
      · exact ((bT X.out j.out).setCell X0 _).alloc J4 _
  have e0:(k==0)=false:=J4;have e1:(k==1)=false:=J4;have e2:(k==2)=false:=J4;have e3:(k==3)=false:=J4;have e4:(k==4)=false:=J4;have e5:(k==5)=false:=J4;have e6:(k==6)=false:=J4;have e7:(k==7)=false:=J4
  go_wp2_with fail
  go_wp2;have g:=O7 a ⟨w.heap.size,0,none⟩ (.slice (some ⟨a.heap.size+1,0,none⟩) 3 3) i;have l:=fun o o2=>bg J4 (bg (by simpa using z6) g o) o2;refine K4 (v:=.agg #[.slice (some ⟨a.heap.size+1,0,none⟩) 3 3]) (by simp [results,Tryz.results95,go_sem,l]) rfl ⟨⟨[⟨2,⟨#[]⟩,0⟩,⟨5,⟨#[]⟩,0⟩,⟨10,⟨#[]⟩,0⟩],some ⟨a.heap.size+1,0,none⟩,3,rfl,?_,K3,x_ rfl⟩,?_⟩
  · exact Qc [⟨2,⟨#[]⟩,0⟩,⟨5,⟨#[]⟩,0⟩,⟨10,⟨#[]⟩,0⟩] _ _ _ X0 O0
  · exact ((R.out.setCell X0 _).alloc J4 _).alloc J4 _
end Go.Proofs.YtdjaajjndfbpmaaGreatDoor
