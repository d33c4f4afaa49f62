import Derived.Test.YtdpoaadafcaffaaGreatDoorWB
set_option linter.unusedVariables false
set_option maxHeartbeats 8000000
set_option maxRecDepth 100000
namespace Go.Proofs.YtdpoaadafcaffaaGreatDoor
open Proofs.Tryz
open Go.RowKit
theorem dE (w:World) (T:List I3):t_ (w.alloc (.cells (D5 T).toArray 121)) (some ⟨w.heap.size,0,none⟩) T:=by
 rcases Nat.eq_zero_or_pos T.length with h0 | h0
 · exact .inl (List.length_eq_zero_iff.1 h0)
 · refine .inr ⟨w.heap.size,0,rfl,U0,fun i hi=>?_⟩
   obtain ⟨h1,h2,h3⟩:=uf T i hi;simp [h1,h2,h3]
def Zl (T:List I3):Prop:=∀ i,(T.getD i K9).tx.size<=4000
def Y9 (B:Nat) (w:World) (a:Option Addr) (T:List I3):Prop:=T=[]\/∃ b off,a=some ⟨b,off,none⟩/\B<=b/\b<w.heap.size/\∀ i,i<T.length->w.cell? ⟨b,off+i*3,none⟩=some (.int .i64 (T.getD i K9).op)/\w.cell? ⟨b,off+i*3+1,none⟩=some (.string (T.getD i K9).tx)/\w.cell? ⟨b,off+i*3+2,none⟩=some (.int .i64 (T.getD i K9).to)
theorem Y9.to {B:Nat} {w:World} {a:Option Addr} {T:List I3} (h:Y9 B w a T):t_ w a T:=by
 rcases h with h | ⟨b,off,h1,_,h2,h3⟩
 · exact .inl h
 · exact .inr ⟨b,off,h1,h2,h3⟩
theorem Y9.mono {B B':Nat} {w:World} {a:Option Addr} {T:List I3} (h:Y9 B w a T) (hB:B'<=B):Y9 B' w a T:=by
 rcases h with h | ⟨b,off,h1,h0,h2,h3⟩
 · exact .inl h
 · exact .inr ⟨b,off,h1,Nat.le_trans hB h0,h2,h3⟩
theorem Y9.but {B q:Nat} {w w':World} {a:Option Addr} {T:List I3} (h:Y9 B w a T) (hk:But q w w') (hq:q<B):Y9 B w' a T:=by
 rcases h with h | ⟨b,off,h1,h0,h2,h3⟩
 · exact .inl h
 · refine .inr ⟨b,off,h1,h0,Nat.lt_of_lt_of_le h2 hk.size,fun i hi=>?_⟩
   rw [hk.cell (by exact h2) (by show b≠q;omega),hk.cell (by exact h2) (by show b≠q;omega),hk.cell (by exact h2) (by show b≠q;omega)];exact h3 i hi
theorem Y9.set {B X j:Nat} {v:Value} {w:World} {a:Option Addr} {T:List I3} (h:Y9 B w a T) (hX:X<B):Y9 B (w.setCell ⟨X,j,none⟩ v) a T:=by
 rcases h with h | ⟨b,off,h1,h0,h2,h3⟩
 · exact .inl h
 · have e:∀ k,(w.setCell ⟨X,j,none⟩ v).cell? ⟨b,k,none⟩=w.cell? ⟨b,k,none⟩:=fun k=>World.cell?_setCell_other _ _ _ _ (fun e=>by injection e with e _;omega)
   refine .inr ⟨b,off,h1,h0,by simpa using h2,fun i hi=>?_⟩;rw [e,e,e];exact h3 i hi
def YB (e:Ending) (w':World) (n B:Nat):Prop:=∃ (T:List I3) (a:Option Addr) (cap:Nat),e=.returned (.agg #[.slice a T.length cap])/\Y9 B w' a T/\(1<=T.length/\T.length<=n)/\Zl T
def Hf (op:Int):Obj:=.cells #[.int .i64 op,.string ⟨#[]⟩,.int .i64 0] 121
theorem R_ {w u:World} {op:Int} (h:Below (w.heap.size+1) (w.alloc (Hf op)) u):u.cell? ⟨w.heap.size,0,none⟩=some (.int .i64 op)/\u.cell? ⟨w.heap.size,1,none⟩=some (.string ⟨#[]⟩)/\u.cell? ⟨w.heap.size,2,none⟩=some (.int .i64 0):=by
 have e:∀ j,u.cell? ⟨w.heap.size,j,none⟩=(w.alloc (Hf op)).cell? ⟨w.heap.size,j,none⟩:=fun j=>h.cell U0;rw [e,e,e];unfold Hf;simp
structure V5 (u:World) (R B1 B2 B3 B4 B5:Nat):Prop where
 a:u.cell? ⟨B1,0,none⟩=some (.int .i64 2)/\u.cell? ⟨B1,1,none⟩=some (.string ⟨#[]⟩)/\u.cell? ⟨B1,2,none⟩=some (.int .i64 0)
 b:u.cell? ⟨B2,0,none⟩=some (.int .i64 3)/\u.cell? ⟨B2,1,none⟩=some (.string ⟨#[]⟩)/\u.cell? ⟨B2,2,none⟩=some (.int .i64 0)
 c:u.cell? ⟨B3,0,none⟩=some (.int .i64 5)/\u.cell? ⟨B3,1,none⟩=some (.string ⟨#[]⟩)/\u.cell? ⟨B3,2,none⟩=some (.int .i64 0)
 d:u.cell? ⟨B4,0,none⟩=some (.int .i64 10)/\u.cell? ⟨B4,1,none⟩=some (.string ⟨#[]⟩)/\u.cell? ⟨B4,2,none⟩=some (.int .i64 0)
 e:u.cell? ⟨B5,0,none⟩=some (.int .i64 7)/\u.cell? ⟨B5,1,none⟩=some (.string ⟨#[]⟩)/\u.cell? ⟨B5,2,none⟩=some (.int .i64 0)
 r:u.cell? ⟨R,0,none⟩=some (.slice none 0 0)/\u.frozen? ⟨R,0,none⟩=false
 z:B1<u.heap.size/\B2<u.heap.size/\B3<u.heap.size/\B4<u.heap.size/\B5<u.heap.size/\R<u.heap.size
theorem V5.later {u u':World} {R B1 B2 B3 B4 B5:Nat} (h:V5 u R B1 B2 B3 B4 B5) (hb:Below u.heap.size u u'):V5 u' R B1 B2 B3 B4 B5:=by
 obtain ⟨a,b,c,d,e,r,z1,z2,z3,z4,z5,z6⟩:=h;have hz:=hb.size;refine ⟨?_,?_,?_,?_,?_,?_,O0,O0,O0,O0,O0,O0⟩
 · rw [hb.cell (by exact z1),hb.cell (by exact z1),hb.cell (by exact z1)];exact a
 · rw [hb.cell (by exact z2),hb.cell (by exact z2),hb.cell (by exact z2)];exact b
 · rw [hb.cell (by exact z3),hb.cell (by exact z3),hb.cell (by exact z3)];exact c
 · rw [hb.cell (by exact z4),hb.cell (by exact z4),hb.cell (by exact z4)];exact d
 · rw [hb.cell (by exact z5),hb.cell (by exact z5),hb.cell (by exact z5)];exact e
 · rw [hb.cell (by exact z6),hb.frozen (by exact z6)];exact r
theorem Qd {w:World} {p:Addr} {v:Value} (hp:p.block<w.heap.size) (h:w.cell? p=some v) (o:Obj):(w.alloc o).cell? p=some v:=by
 rw [((Below.refl w.heap.size w).alloc Q8 o).cell hp];exact h
theorem Va (T:List I3) (U:World) (B B0:Nat) (hU:U.heap.size=B) (hB:B0<=B):Y9 B0 (U.alloc (.cells (D5 T).toArray 121)) (some ⟨B,0,none⟩) T:=by
 subst hU;rcases Nat.eq_zero_or_pos T.length with h0 | h0
 · exact .inl (List.length_eq_zero_iff.1 h0)
 · refine .inr ⟨U.heap.size,0,rfl,hB,U0,fun i hi=>?_⟩
   obtain ⟨h1,h2,h3⟩:=uf T i hi;simp [h1,h2,h3]
theorem T9 {T:List I3} (h:(T.all fun x=>decide (x.tx.size<=4000))=true):Zl T:=by
 refine Uj fun i hi=>?_;rw [List.all_eq_true] at h;have e:T.getD i K9=T[i]:=by simp [hi]
 rw [e];simpa using h _ (List.getElem_mem hi)
theorem nJ (k:Int) (w:World):
 Calls prog 60 #[.int .i64 k] w fun e w'=>YB e w' 10 w.heap.size/\Below w.heap.size w w':=by
 go_enter func60,ntmps60
 go_wp2_with fail
 refine (Pw 2 _).mono ?_;rintro e w1 ⟨rfl,hb1⟩
 go_wp2_with fail
 refine (Pw 3 _).mono ?_;rintro e w2 ⟨rfl,hb2⟩
 go_wp2_with fail
 refine (Pw 5 _).mono ?_;rintro e w3 ⟨rfl,hb3⟩
 go_wp2_with fail
 refine (Pw 10 _).mono ?_;rintro e w4 ⟨rfl,hb4⟩
 go_wp2_with fail
 refine (Pw 7 _).mono ?_;rintro e w5 ⟨rfl,hb5⟩;have s1:=hb1.size;have s2:=hb2.size;have s3:=hb3.size;have s4:=hb4.size;have s5:=hb5.size;simp at s1 s2 s3 s4 s5;have g1:Below (w.heap.size+1) (w.alloc (.cells #[.slice none 0 0] 109)) w1:=by have h:=hb1;simp at h;exact h
 have g2:Below (w1.heap.size+1) (w1.alloc (Hf 2)) w2:=by have h:=hb2;simp at h;exact h
 have g3:Below (w2.heap.size+1) (w2.alloc (Hf 3)) w3:=by have h:=hb3;simp at h;exact h
 have g4:Below (w3.heap.size+1) (w3.alloc (Hf 5)) w4:=by have h:=hb4;simp at h;exact h
 have g5:Below (w4.heap.size+1) (w4.alloc (Hf 10)) w5:=by have h:=hb5;simp at h;exact h
 have a1:∀ (u:World) (o:Obj),Below u.heap.size u (u.alloc o):=fun u o=>bA;have t5:=(a1 w4 _).trans (g5.mono O0);have t4:=((a1 w3 _).trans (g4.mono O0)).trans (t5.mono O0);have t3:=((a1 w2 _).trans (g3.mono O0)).trans (t4.mono O0);have t2:=((a1 w1 _).trans (g2.mono O0)).trans (t3.mono O0);have f1:=g1.trans (t2.mono O0);have hBW:=(a1 w _).trans (f1.mono O0);have HV:Hid (V5 (w5.alloc (Hf 7)) w.heap.size w1.heap.size w2.heap.size w3.heap.size w4.heap.size w5.heap.size):=by
  have hA:=a1 w5 (Hf 7);refine ⟨R_ ((g2.trans (t3.mono O0)).trans (hA.mono O0)),R_ ((g3.trans (t4.mono O0)).trans (hA.mono O0)),R_ ((g4.trans (t5.mono O0)).trans (hA.mono O0)),R_ (g5.trans (hA.mono O0)),R_ (Below.refl _ _),?_,X3⟩;rw [(f1.trans (hA.mono O0)).cell U0,(f1.trans (hA.mono O0)).frozen U0];simp
 have dM:=Q0 hBW;have SL:Hid (Below w.heap.size w (w5.alloc (Hf 7))):=hBW.alloc O0 _;obtain ⟨p10,p11,p12⟩:=R_ (g2.trans (t3.mono O0));obtain ⟨p20,p21,p22⟩:=R_ (g3.trans (t4.mono O0));obtain ⟨p30,p31,p32⟩:=R_ (g4.trans (t5.mono O0));obtain ⟨p40,p41,p42⟩:=R_ g5;have pr:w5.cell? ⟨w.heap.size,0,none⟩=some (.slice none 0 0):=by rw [f1.cell U0];simp
 have pf:w5.frozen? ⟨w.heap.size,0,none⟩=false:=by rw [f1.frozen U0];simp
 have z1:w1.heap.size<w5.heap.size:=O0;have z2:w2.heap.size<w5.heap.size:=O0;have z3:w3.heap.size<w5.heap.size:=O0;have z4:w4.heap.size<w5.heap.size:=O0;have z6:w.heap.size<w5.heap.size:=O0;have n1:¬ w.heap.size=w1.heap.size:=O0;have m1:¬ w1.heap.size=w.heap.size:=O0;have n2:¬ w.heap.size=w2.heap.size:=O0;have m2:¬ w2.heap.size=w.heap.size:=O0;have n3:¬ w.heap.size=w3.heap.size:=O0;have m3:¬ w3.heap.size=w.heap.size:=O0;have n4:¬ w.heap.size=w4.heap.size:=O0;have m4:¬ w4.heap.size=w.heap.size:=O0;have n5:¬ w.heap.size=w5.heap.size:=O0;have m5:¬ w5.heap.size=w.heap.size:=O0;clear hb1 hb2 hb3 hb4 hb5 g1 g2 g3 g4 g5 t2 t3 t4 t5 f1 hBW a1 s1 s2 s3 s4 s5;by_cases h0:k=0
 · subst h0
   go_wp2_with fail
   change Code.wp _ _ _ _ (w5.alloc (Hf 7));clear p10 p11 p12 p20 p21 p22 p30 p31 p32 p40 p41 p42 pr pf z1 z2 z3 z4 z6;generalize (w5.alloc (Hf 7))=W at*;obtain ⟨⟨p10,p11,p12⟩,⟨p20,p21,p22⟩,⟨p30,p31,p32⟩,⟨p40,p41,p42⟩,⟨p50,p51,p52⟩,⟨pr,pf⟩,z1,z2,z3,z4,z5,z6⟩:=HV.out
   go_region_held3 (fun u=>(u.cell? ⟨w1.heap.size,0,none⟩=some (.int .i64 2)/\u.cell? ⟨w1.heap.size,1,none⟩=some (.string ⟨#[]⟩)/\u.cell? ⟨w1.heap.size,2,none⟩=some (.int .i64 0))/\(u.cell? ⟨w2.heap.size,0,none⟩=some (.int .i64 3)/\u.cell? ⟨w2.heap.size,1,none⟩=some (.string ⟨#[]⟩)/\u.cell? ⟨w2.heap.size,2,none⟩=some (.int .i64 0))/\(u.cell? ⟨w3.heap.size,0,none⟩=some (.int .i64 5)/\u.cell? ⟨w3.heap.size,1,none⟩=some (.string ⟨#[]⟩)/\u.cell? ⟨w3.heap.size,2,none⟩=some (.int .i64 0))/\(u.cell? ⟨w4.heap.size,0,none⟩=some (.int .i64 10)/\u.cell? ⟨w4.heap.size,1,none⟩=some (.string ⟨#[]⟩)/\u.cell? ⟨w4.heap.size,2,none⟩=some (.int .i64 0))/\(u.cell? ⟨w5.heap.size,0,none⟩=some (.int .i64 7)/\u.cell? ⟨w5.heap.size,1,none⟩=some (.string ⟨#[]⟩)/\u.cell? ⟨w5.heap.size,2,none⟩=some (.int .i64 0))) (go_keep) (first | (go_at_call 99;refine (PK 1 ⟨#[33]⟩ _).mono ?_;rintro e w6 ⟨rfl,hb6⟩;have QL:Hid (Below W.heap.size W w6):=(Below.refl _ _).drew.trans hb6;obtain ⟨⟨pX,qX,rX⟩,⟨uX,vX,wX⟩,⟨p30',p31',xX⟩,⟨yX,AX,BX⟩,⟨EX,p51',FX⟩,⟨pr',pf'⟩,z1',z2',z3',z4',z5',GX⟩:=HV.out.later QL.out))
   all_goals
    go_wp2;have er:=World.cell?_setCell_same w6 ⟨w.heap.size,0,none⟩ (.slice (some ⟨w6.heap.size,0,none⟩) 7 7) pr';have IX:=fun o=>Qd (by simpa using GX) er o;refine bodyPost_ret (v:=.agg #[.slice (some ⟨w6.heap.size,0,none⟩) 7 7]) (by simp [results,Tryz.results60,go_sem,IX]) rfl ⟨⟨[⟨2,⟨#[]⟩,0⟩,⟨7,⟨#[]⟩,0⟩,⟨3,⟨#[]⟩,0⟩,⟨5,⟨#[]⟩,0⟩,⟨1,⟨#[33]⟩,0⟩,⟨5,⟨#[]⟩,0⟩,⟨10,⟨#[]⟩,0⟩],some ⟨w6.heap.size,0,none⟩,7,rfl,?_,J3,T9 rfl⟩,?_⟩
    · exact Va [⟨2,⟨#[]⟩,0⟩,⟨7,⟨#[]⟩,0⟩,⟨3,⟨#[]⟩,0⟩,⟨5,⟨#[]⟩,0⟩,⟨1,⟨#[33]⟩,0⟩,⟨5,⟨#[]⟩,0⟩,⟨10,⟨#[]⟩,0⟩] _ _ _ U0 O0
    · exact ((bT SL.out QL.out).setCell U0 _).alloc X3 _
 by_cases h1:k=1
 · subst h1
   go_wp2_with fail
   go_wp2;have er:=World.cell?_setCell_same w5 ⟨w.heap.size,0,none⟩ (.slice (some ⟨w5.heap.size+1,0,none⟩) 9 9) pr;have wU:=fun o o2=>Qd X3 (Qd (by simpa using z6) er o) o2;refine bodyPost_ret (v:=.agg #[.slice (some ⟨w5.heap.size+1,0,none⟩) 9 9]) (by simp [results,Tryz.results60,go_sem,wU]) rfl ⟨⟨[⟨2,⟨#[]⟩,0⟩,⟨7,⟨#[]⟩,0⟩,⟨3,⟨#[]⟩,0⟩,⟨5,⟨#[]⟩,0⟩,⟨2,⟨#[]⟩,0⟩,⟨7,⟨#[]⟩,1⟩,⟨3,⟨#[]⟩,0⟩,⟨5,⟨#[]⟩,0⟩,⟨10,⟨#[]⟩,0⟩],some ⟨w5.heap.size+1,0,none⟩,9,rfl,?_,J3,T9 rfl⟩,?_⟩
   · exact Va [⟨2,⟨#[]⟩,0⟩,⟨7,⟨#[]⟩,0⟩,⟨3,⟨#[]⟩,0⟩,⟨5,⟨#[]⟩,0⟩,⟨2,⟨#[]⟩,0⟩,⟨7,⟨#[]⟩,1⟩,⟨3,⟨#[]⟩,0⟩,⟨5,⟨#[]⟩,0⟩,⟨10,⟨#[]⟩,0⟩] _ _ _ U0 O0
   · exact ((dM.out.setCell U0 _).alloc X3 _).alloc X3 _
 by_cases h2:k=2
 · subst h2
   go_wp2_with fail
   go_wp2;have er:=World.cell?_setCell_same w5 ⟨w.heap.size,0,none⟩ (.slice (some ⟨w5.heap.size+1,0,none⟩) 7 7) pr;have wU:=fun o o2=>Qd X3 (Qd (by simpa using z6) er o) o2;refine bodyPost_ret (v:=.agg #[.slice (some ⟨w5.heap.size+1,0,none⟩) 7 7]) (by simp [results,Tryz.results60,go_sem,wU]) rfl ⟨⟨[⟨2,⟨#[]⟩,0⟩,⟨7,⟨#[]⟩,0⟩,⟨3,⟨#[]⟩,0⟩,⟨7,⟨#[]⟩,0⟩,⟨3,⟨#[]⟩,0⟩,⟨5,⟨#[]⟩,0⟩,⟨10,⟨#[]⟩,0⟩],some ⟨w5.heap.size+1,0,none⟩,7,rfl,?_,J3,T9 rfl⟩,?_⟩
   · exact Va [⟨2,⟨#[]⟩,0⟩,⟨7,⟨#[]⟩,0⟩,⟨3,⟨#[]⟩,0⟩,⟨7,⟨#[]⟩,0⟩,⟨3,⟨#[]⟩,0⟩,⟨5,⟨#[]⟩,0⟩,⟨10,⟨#[]⟩,0⟩] _ _ _ U0 O0
   · exact ((dM.out.setCell U0 _).alloc X3 _).alloc X3 _
 by_cases h3:k=3
 · subst h3
   go_wp2_with fail
   change Code.wp _ _ _ _ (w5.alloc (Hf 7));clear p10 p11 p12 p20 p21 p22 p30 p31 p32 p40 p41 p42 pr pf z1 z2 z3 z4 z6;generalize (w5.alloc (Hf 7))=W at*;obtain ⟨⟨p10,p11,p12⟩,⟨p20,p21,p22⟩,⟨p30,p31,p32⟩,⟨p40,p41,p42⟩,⟨p50,p51,p52⟩,⟨pr,pf⟩,z1,z2,z3,z4,z5,z6⟩:=HV.out
   go_region_held3 (fun u=>(u.cell? ⟨w1.heap.size,0,none⟩=some (.int .i64 2)/\u.cell? ⟨w1.heap.size,1,none⟩=some (.string ⟨#[]⟩)/\u.cell? ⟨w1.heap.size,2,none⟩=some (.int .i64 0))/\(u.cell? ⟨w2.heap.size,0,none⟩=some (.int .i64 3)/\u.cell? ⟨w2.heap.size,1,none⟩=some (.string ⟨#[]⟩)/\u.cell? ⟨w2.heap.size,2,none⟩=some (.int .i64 0))/\(u.cell? ⟨w3.heap.size,0,none⟩=some (.int .i64 5)/\u.cell? ⟨w3.heap.size,1,none⟩=some (.string ⟨#[]⟩)/\u.cell? ⟨w3.heap.size,2,none⟩=some (.int .i64 0))/\(u.cell? ⟨w4.heap.size,0,none⟩=some (.int .i64 10)/\u.cell? ⟨w4.heap.size,1,none⟩=some (.string ⟨#[]⟩)/\u.cell? ⟨w4.heap.size,2,none⟩=some (.int .i64 0))/\(u.cell? ⟨w5.heap.size,0,none⟩=some (.int .i64 7)/\u.cell? ⟨w5.heap.size,1,none⟩=some (.string ⟨#[]⟩)/\u.cell? ⟨w5.heap.size,2,none⟩=some (.int .i64 0))) (go_keep) (first | (go_at_call 61;refine (Pw 4 _).mono ?_;rintro e w6 ⟨rfl,hb6⟩;have QL:Hid (Below W.heap.size W w6):=(Below.refl _ _).drew.trans hb6;obtain ⟨⟨pX,qX,rX⟩,⟨uX,vX,wX⟩,⟨p30',p31',xX⟩,⟨yX,AX,BX⟩,⟨EX,p51',FX⟩,⟨pr',pf'⟩,z1',z2',z3',z4',z5',GX⟩:=HV.out.later QL.out))
   all_goals
    go_wp2;have er:=World.cell?_setCell_same w6 ⟨w.heap.size,0,none⟩ (.slice (some ⟨w6.heap.size,0,none⟩) 9 9) pr';have IX:=fun o=>Qd (by simpa using GX) er o;refine bodyPost_ret (v:=.agg #[.slice (some ⟨w6.heap.size,0,none⟩) 9 9]) (by simp [results,Tryz.results60,go_sem,IX]) rfl ⟨⟨[⟨2,⟨#[]⟩,0⟩,⟨7,⟨#[]⟩,0⟩,⟨4,⟨#[]⟩,0⟩,⟨8,⟨#[48]⟩,7⟩,⟨2,⟨#[]⟩,0⟩,⟨7,⟨#[]⟩,0⟩,⟨3,⟨#[]⟩,0⟩,⟨5,⟨#[]⟩,0⟩,⟨10,⟨#[]⟩,0⟩],some ⟨w6.heap.size,0,none⟩,9,rfl,?_,J3,T9 rfl⟩,?_⟩
    · exact Va [⟨2,⟨#[]⟩,0⟩,⟨7,⟨#[]⟩,0⟩,⟨4,⟨#[]⟩,0⟩,⟨8,⟨#[48]⟩,7⟩,⟨2,⟨#[]⟩,0⟩,⟨7,⟨#[]⟩,0⟩,⟨3,⟨#[]⟩,0⟩,⟨5,⟨#[]⟩,0⟩,⟨10,⟨#[]⟩,0⟩] _ _ _ U0 O0
    · exact ((bT SL.out QL.out).setCell U0 _).alloc X3 _
 by_cases h4:k=4
 · subst h4
   go_wp2_with fail
   go_wp2;have er:=World.cell?_setCell_same w5 ⟨w.heap.size,0,none⟩ (.slice (some ⟨w5.heap.size+1,0,none⟩) 9 9) pr;have wU:=fun o o2=>Qd X3 (Qd (by simpa using z6) er o) o2;refine bodyPost_ret (v:=.agg #[.slice (some ⟨w5.heap.size+1,0,none⟩) 9 9]) (by simp [results,Tryz.results60,go_sem,wU]) rfl ⟨⟨[⟨2,⟨#[]⟩,0⟩,⟨7,⟨#[]⟩,0⟩,⟨3,⟨#[]⟩,0⟩,⟨8,⟨#[118,49]⟩,7⟩,⟨2,⟨#[]⟩,0⟩,⟨7,⟨#[]⟩,1⟩,⟨3,⟨#[]⟩,0⟩,⟨5,⟨#[]⟩,0⟩,⟨10,⟨#[]⟩,0⟩],some ⟨w5.heap.size+1,0,none⟩,9,rfl,?_,J3,T9 rfl⟩,?_⟩
   · exact Va [⟨2,⟨#[]⟩,0⟩,⟨7,⟨#[]⟩,0⟩,⟨3,⟨#[]⟩,0⟩,⟨8,⟨#[118,49]⟩,7⟩,⟨2,⟨#[]⟩,0⟩,⟨7,⟨#[]⟩,1⟩,⟨3,⟨#[]⟩,0⟩,⟨5,⟨#[]⟩,0⟩,⟨10,⟨#[]⟩,0⟩] _ _ _ U0 O0
   · exact ((dM.out.setCell U0 _).alloc X3 _).alloc X3 _
 by_cases h5:k=5
 · subst h5
   go_wp2_with fail
   change Code.wp _ _ _ _ (w5.alloc (Hf 7));clear p10 p11 p12 p20 p21 p22 p30 p31 p32 p40 p41 p42 pr pf z1 z2 z3 z4 z6;generalize (w5.alloc (Hf 7))=W at*;obtain ⟨⟨p10,p11,p12⟩,⟨p20,p21,p22⟩,⟨p30,p31,p32⟩,⟨p40,p41,p42⟩,⟨p50,p51,p52⟩,⟨pr,pf⟩,z1,z2,z3,z4,z5,z6⟩:=HV.out
   go_region_held3 (fun u=>(u.cell? ⟨w1.heap.size,0,none⟩=some (.int .i64 2)/\u.cell? ⟨w1.heap.size,1,none⟩=some (.string ⟨#[]⟩)/\u.cell? ⟨w1.heap.size,2,none⟩=some (.int .i64 0))/\(u.cell? ⟨w2.heap.size,0,none⟩=some (.int .i64 3)/\u.cell? ⟨w2.heap.size,1,none⟩=some (.string ⟨#[]⟩)/\u.cell? ⟨w2.heap.size,2,none⟩=some (.int .i64 0))/\(u.cell? ⟨w3.heap.size,0,none⟩=some (.int .i64 5)/\u.cell? ⟨w3.heap.size,1,none⟩=some (.string ⟨#[]⟩)/\u.cell? ⟨w3.heap.size,2,none⟩=some (.int .i64 0))/\(u.cell? ⟨w4.heap.size,0,none⟩=some (.int .i64 10)/\u.cell? ⟨w4.heap.size,1,none⟩=some (.string ⟨#[]⟩)/\u.cell? ⟨w4.heap.size,2,none⟩=some (.int .i64 0))/\(u.cell? ⟨w5.heap.size,0,none⟩=some (.int .i64 7)/\u.cell? ⟨w5.heap.size,1,none⟩=some (.string ⟨#[]⟩)/\u.cell? ⟨w5.heap.size,2,none⟩=some (.int .i64 0))) (go_keep) (first | (go_at_call 61;refine (Pw 11 _).mono ?_;rintro e w6 ⟨rfl,hb6⟩;have QL:Hid (Below W.heap.size W w6):=(Below.refl _ _).drew.trans hb6;obtain ⟨⟨pX,qX,rX⟩,⟨uX,vX,wX⟩,⟨p30',p31',xX⟩,⟨yX,AX,BX⟩,⟨EX,p51',FX⟩,⟨pr',pf'⟩,z1',z2',z3',z4',z5',GX⟩:=HV.out.later QL.out))
   all_goals
    go_wp2;have er:=World.cell?_setCell_same w6 ⟨w.heap.size,0,none⟩ (.slice (some ⟨w6.heap.size,0,none⟩) 4 4) pr';have IX:=fun o=>Qd (by simpa using GX) er o;refine bodyPost_ret (v:=.agg #[.slice (some ⟨w6.heap.size,0,none⟩) 4 4]) (by simp [results,Tryz.results60,go_sem,IX]) rfl ⟨⟨[⟨2,⟨#[]⟩,0⟩,⟨7,⟨#[]⟩,0⟩,⟨3,⟨#[]⟩,0⟩,⟨11,⟨#[]⟩,0⟩],some ⟨w6.heap.size,0,none⟩,4,rfl,?_,J3,T9 rfl⟩,?_⟩
    · exact Va [⟨2,⟨#[]⟩,0⟩,⟨7,⟨#[]⟩,0⟩,⟨3,⟨#[]⟩,0⟩,⟨11,⟨#[]⟩,0⟩] _ _ _ U0 O0
    · exact ((bT SL.out QL.out).setCell U0 _).alloc X3 _
 by_cases h6:k=6
 · subst h6
   go_wp2_with fail
   go_wp2;have er:=World.cell?_setCell_same w5 ⟨w.heap.size,0,none⟩ (.slice (some ⟨w5.heap.size+1,0,none⟩) 2 2) pr;have wU:=fun o o2=>Qd X3 (Qd (by simpa using z6) er o) o2;refine bodyPost_ret (v:=.agg #[.slice (some ⟨w5.heap.size+1,0,none⟩) 2 2]) (by simp [results,Tryz.results60,go_sem,wU]) rfl ⟨⟨[⟨2,⟨#[]⟩,0⟩,⟨9,⟨#[]⟩,0⟩],some ⟨w5.heap.size+1,0,none⟩,2,rfl,?_,J3,T9 rfl⟩,?_⟩
   · exact Va [⟨2,⟨#[]⟩,0⟩,⟨9,⟨#[]⟩,0⟩] _ _ _ U0 O0
   · exact ((dM.out.setCell U0 _).alloc X3 _).alloc X3 _
 by_cases h7:k=7
 · subst h7
   go_wp2_with fail
   change Code.wp _ _ _ _ (w5.alloc (Hf 7));clear p10 p11 p12 p20 p21 p22 p30 p31 p32 p40 p41 p42 pr pf z1 z2 z3 z4 z6;generalize (w5.alloc (Hf 7))=W at*;obtain ⟨⟨p10,p11,p12⟩,⟨p20,p21,p22⟩,⟨p30,p31,p32⟩,⟨p40,p41,p42⟩,⟨p50,p51,p52⟩,⟨pr,pf⟩,z1,z2,z3,z4,z5,z6⟩:=HV.out
   go_region_held3 (fun u=>(u.cell? ⟨w1.heap.size,0,none⟩=some (.int .i64 2)/\u.cell? ⟨w1.heap.size,1,none⟩=some (.string ⟨#[]⟩)/\u.cell? ⟨w1.heap.size,2,none⟩=some (.int .i64 0))/\(u.cell? ⟨w2.heap.size,0,none⟩=some (.int .i64 3)/\u.cell? ⟨w2.heap.size,1,none⟩=some (.string ⟨#[]⟩)/\u.cell? ⟨w2.heap.size,2,none⟩=some (.int .i64 0))/\(u.cell? ⟨w3.heap.size,0,none⟩=some (.int .i64 5)/\u.cell? ⟨w3.heap.size,1,none⟩=some (.string ⟨#[]⟩)/\u.cell? ⟨w3.heap.size,2,none⟩=some (.int .i64 0))/\(u.cell? ⟨w4.heap.size,0,none⟩=some (.int .i64 10)/\u.cell? ⟨w4.heap.size,1,none⟩=some (.string ⟨#[]⟩)/\u.cell? ⟨w4.heap.size,2,none⟩=some (.int .i64 0))/\(u.cell? ⟨w5.heap.size,0,none⟩=some (.int .i64 7)/\u.cell? ⟨w5.heap.size,1,none⟩=some (.string ⟨#[]⟩)/\u.cell? ⟨w5.heap.size,2,none⟩=some (.int .i64 0))) (go_keep) (first | (go_at_call 61;refine (Pw 4 _).mono ?_;rintro e w6 ⟨rfl,hb6⟩;have QL:Hid (Below W.heap.size W w6):=(Below.refl _ _).drew.trans hb6;obtain ⟨⟨pX,qX,rX⟩,⟨uX,vX,wX⟩,⟨p30',p31',xX⟩,⟨yX,AX,BX⟩,⟨EX,p51',FX⟩,⟨pr',pf'⟩,z1',z2',z3',z4',z5',GX⟩:=HV.out.later QL.out))
   all_goals
    go_wp2;have er:=World.cell?_setCell_same w6 ⟨w.heap.size,0,none⟩ (.slice (some ⟨w6.heap.size,0,none⟩) 4 4) pr';have IX:=fun o=>Qd (by simpa using GX) er o;refine bodyPost_ret (v:=.agg #[.slice (some ⟨w6.heap.size,0,none⟩) 4 4]) (by simp [results,Tryz.results60,go_sem,IX]) rfl ⟨⟨[⟨2,⟨#[]⟩,0⟩,⟨7,⟨#[]⟩,0⟩,⟨4,⟨#[]⟩,0⟩,⟨9,⟨#[]⟩,0⟩],some ⟨w6.heap.size,0,none⟩,4,rfl,?_,J3,T9 rfl⟩,?_⟩
    · exact Va [⟨2,⟨#[]⟩,0⟩,⟨7,⟨#[]⟩,0⟩,⟨4,⟨#[]⟩,0⟩,⟨9,⟨#[]⟩,0⟩] _ _ _ U0 O0
    · exact ((bT SL.out QL.out).setCell U0 _).alloc X3 _
 have e0:(k==0)=false:=X3;have e1:(k==1)=false:=X3;have e2:(k==2)=false:=X3;have e3:(k==3)=false:=X3;have e4:(k==4)=false:=X3;have e5:(k==5)=false:=X3;have e6:(k==6)=false:=X3;have e7:(k==7)=false:=X3
 go_wp2_with fail
 go_wp2;have er:=World.cell?_setCell_same w5 ⟨w.heap.size,0,none⟩ (.slice (some ⟨w5.heap.size+1,0,none⟩) 3 3) pr;have wU:=fun o o2=>Qd X3 (Qd (by simpa using z6) er o) o2;refine bodyPost_ret (v:=.agg #[.slice (some ⟨w5.heap.size+1,0,none⟩) 3 3]) (by simp [results,Tryz.results60,go_sem,wU]) rfl ⟨⟨[⟨2,⟨#[]⟩,0⟩,⟨5,⟨#[]⟩,0⟩,⟨10,⟨#[]⟩,0⟩],some ⟨w5.heap.size+1,0,none⟩,3,rfl,?_,J3,T9 rfl⟩,?_⟩
 · exact Va [⟨2,⟨#[]⟩,0⟩,⟨5,⟨#[]⟩,0⟩,⟨10,⟨#[]⟩,0⟩] _ _ _ U0 O0
 · exact ((dM.out.setCell U0 _).alloc X3 _).alloc X3 _
theorem qi {w:World} {base b j:Nat} {e:TypeId} {size:Nat} {v x:Value} {n:Nat} {xs:List Value} (h:w.ownsRow base e size v n xs) (hb:b<base):(w.setCell ⟨b,j,none⟩ x).ownsRow base e size v n xs:=by
 refine ⟨h.1,h.2.imp id ?_⟩;rintro ⟨g,cap,cur,h1,h2,h3,h4⟩;exact ⟨g,cap,cur,h1,h2,(Below.heap_setCell _ _ _ _ (by show g≠b;omega)).trans h3,h4⟩
structure TB (u:World) (base R X:Nat) (v:Value) (is:List I3):Prop where
 r:u.heap[R]?=some (.cells #[.slice none 0 0] 109 (0,0))
 x:u.heap[X]?=some (.cells #[v] 109 (0,0))
 own:u.ownsRow base 121 3 v is.length (D5 is)
 lt:R<base/\X<base/\base<=u.heap.size/\R≠X
theorem Ph {u u':World} {q base:Nat} {e:TypeId} {size:Nat} {v:Value} {n:Nat} {xs:List Value} (h:u.ownsRow base e size v n xs) (hk:But q u u') (hq:q<base):u'.ownsRow base e size v n xs:=by
 obtain ⟨h1,h2⟩:=h;refine ⟨h1,?_⟩;rcases h2 with h | ⟨g,cap,cur,hv,hg,hh,hr⟩
 · exact .inl h
 · exact .inr ⟨g,cap,cur,hv,hg,by rw [hk.block g (F4 hh) O0];exact hh,hr⟩
theorem TB.but {u u':World} {q base R X:Nat} {v:Value} {is:List I3} (h:TB u base R X v is) (hk:But q u u') (hq:q<base) (hR:R≠q) (hX:X≠q):TB u' base R X v is:=by
 obtain ⟨r,x,o,l1,l2,l3,l4⟩:=h;exact ⟨by rw [hk.block R O0 hR];exact r,by rw [hk.block X O0 hX];exact x,Ph o hk hq,l1,l2,Nat.le_trans l3 hk.size,l4⟩
theorem TB.below {u u':World} {base R X:Nat} {v:Value} {is:List I3} (h:TB u base R X v is) (hb:Below u.heap.size u u'):TB u' base R X v is:=by
 obtain ⟨r,x,o,l1,l2,l3,l4⟩:=h;exact ⟨by rw [hb.block R O0];exact r,by rw [hb.block X O0];exact x,ownsRow_below o hb,l1,l2,Nat.le_trans l3 hb.size,l4⟩
theorem TB.cells {u:World} {base R X:Nat} {v:Value} {is:List I3} (h:TB u base R X v is):u.cell? ⟨X,0,none⟩=some v/\u.frozen? ⟨X,0,none⟩=false/\u.cell? ⟨R,0,none⟩=some (.slice none 0 0)/\u.frozen? ⟨R,0,none⟩=false:=
 ⟨by rw [Lib.cell_of_heap h.x];rfl,Lib.frozen_of_heap h.x 0,by rw [Lib.cell_of_heap h.r];rfl,Lib.frozen_of_heap h.r 0⟩
def Qu:Array Value:=#[.int .i64 0,.int .i64 0,.int .i64 0,.int .i64 1,.int .i64 1,.int .i64 2,.int .i64 3,.int .i64 4,.int .i64 5,.int .i64 6,.int .i64 7,.int .i64 8,.int .i64 4,.int .i64 3,.int .i64 1,.int .i64 0]
theorem OI (r:Int) (h0:0<=r) (h:r<16):∃ z:Int,Qu[r.toNat]?=some (.int .i64 z):=by
 obtain rfl | rfl | rfl | rfl | rfl | rfl | rfl | rfl | rfl | rfl | rfl | rfl | rfl | rfl | rfl | rfl:r=0\/r=1\/r=2\/r=3\/r=4\/r=5\/r=6\/r=7\/r=8\/r=9\/r=10\/r=11\/r=12\/r=13\/r=14\/r=15:=O0
 all_goals exact ⟨_,rfl⟩
def Au:Array Value:=#[.int .i64 1,.int .i64 2,.int .i64 3,.int .i64 4,.int .i64 5,.int .i64 6,.int .i64 7,.int .i64 8,.int .i64 9,.int .i64 10,.int .i64 11,.int .i64 2,.int .i64 3,.int .i64 5]
theorem RI (r:Int) (h0:0<=r) (h:r<14):∃ z:Int,Au[r.toNat]?=some (.int .i64 z):=by
 obtain rfl | rfl | rfl | rfl | rfl | rfl | rfl | rfl | rfl | rfl | rfl | rfl | rfl | rfl:r=0\/r=1\/r=2\/r=3\/r=4\/r=5\/r=6\/r=7\/r=8\/r=9\/r=10\/r=11\/r=12\/r=13:=O0
 all_goals exact ⟨_,rfl⟩
theorem K7 {q B:Nat} {w u:World} (h:But q w u) (hB:w.heap.size<=B) (j:Nat) (v0:Value):But q w (u.setCell ⟨B,j,none⟩ v0):=
 ⟨h.os,h.tape,h.output,by simpa using h.size,fun k hk hne=>by
  rw [heap_setCell_other _ ⟨B,j,none⟩ k _ (by show k≠B;omega)];exact h.block k hk hne⟩
theorem K8 {q P B:Nat} {u:World} (h:o8 u q P) (hB:q<B) (j:Nat) (v0:Value):o8 (u.setCell ⟨B,j,none⟩ v0) q P:=by
 obtain ⟨p,hp,hr⟩:=h;exact ⟨p,hp,hr.later (B:=B) ((Below.refl B u).setCell (by exact Nat.le_refl _) _) hB⟩
theorem Rq {is:List I3} {x:I3} {N:Nat} (h:∀ j,(is.getD j K9).tx.size<=N) (hx:x.tx.size<=N) (j:Nat):((is++[x]).getD j K9).tx.size<=N:=by
 rcases Nat.lt_trichotomy j is.length with hj | hj | hj
 · have:(is++[x]).getD j K9=is.getD j K9:=by simp [List.getD,List.getElem?_append_left hj]
   rw [this];exact h j
 · subst hj
   have:(is++[x]).getD is.length K9=x:=by simp [List.getD]
   rw [this];exact hx
 · have:(is++[x]).getD j K9=K9:=by simp [List.getD,List.getElem?_eq_none (show (is++[x]).length<=j by simp;omega)]
   rw [this];exact Nat.zero_le _
theorem o8.Q9 {u u':World} {q P B:Nat} (h:o8 u q P) (hb:Below B u u') (hq:q<B):o8 u' q P:=by
 obtain ⟨p,h1,h2⟩:=h;exact ⟨p,h1,h2.later hb hq⟩
theorem But.Q9 {q B:Nat} {w u u':World} (h:But q w u) (hb:Below B u u') (hB:w.heap.size<=B):But q w u':=
 ⟨hb.os.trans h.os,hb.tape.trans h.tape,hb.output.trans h.output,Nat.le_trans h.size hb.size,fun k hk hne=>(hb.block k O0).trans (h.block k hk hne)⟩
def XI (u:World) (Xi:Nat) (z:Int) (t:ByteArray) (o:Int):Prop:=u.heap[Xi]?=some (.cells #[.int .i64 z,.string t,.int .i64 o] 121 (0,0))
theorem XI.cells {u:World} {Xi:Nat} {z:Int} {t:ByteArray} {o:Int} (h:XI u Xi z t o):(u.cell? ⟨Xi,0,none⟩=some (.int .i64 z)/\u.cell? ⟨Xi,1,none⟩=some (.string t)/\u.cell? ⟨Xi,2,none⟩=some (.int .i64 o))/\u.frozen? ⟨Xi,1,none⟩=false/\u.frozen? ⟨Xi,2,none⟩=false:=
 ⟨⟨by rw [Lib.cell_of_heap h];rfl,by rw [Lib.cell_of_heap h];rfl,by rw [Lib.cell_of_heap h];rfl⟩,Lib.frozen_of_heap h 1,Lib.frozen_of_heap h 2⟩
theorem XI.but {u u':World} {q Xi:Nat} {z:Int} {t:ByteArray} {o:Int} (h:XI u Xi z t o) (hk:But q u u') (hX:Xi≠q):XI u' Xi z t o:=(hk.block Xi (F4 h) hX).trans h
theorem XI.set1 {u:World} {Xi:Nat} {z:Int} {t t':ByteArray} {o:Int} (h:XI u Xi z t o):XI (u.setCell ⟨Xi,1,none⟩ (.string t')) Xi z t' o:=heap_setCell_same u Xi 1 _ 121 _ h
theorem XI.set2 {u:World} {Xi:Nat} {z:Int} {t:ByteArray} {o o':Int} (h:XI u Xi z t o):XI (u.setCell ⟨Xi,2,none⟩ (.int .i64 o')) Xi z t o':=heap_setCell_same u Xi 2 _ 121 _ h
theorem TB.NC {u:World} {base R X Xi j:Nat} {v v0:Value} {is:List I3} (h:TB u base R X v is) (hR:R≠Xi) (hX:X≠Xi) (hv:∀ g,v.ownBlock=some g->g≠Xi):TB (u.setCell ⟨Xi,j,none⟩ v0) base R X v is:=by
 obtain ⟨r,x,o,l⟩:=h;refine ⟨by rw [heap_setCell_other _ ⟨Xi,j,none⟩ R _ hR];exact r,by rw [heap_setCell_other _ ⟨Xi,j,none⟩ X _ hX];exact x,?_,by simpa using l⟩;have o':=o;obtain ⟨h1,h2⟩:=o;refine ⟨h1,?_⟩;rcases h2 with h | ⟨g,cap,cur,rfl,hg,hh,hr⟩
 · exact .inl h
 · exact .inr ⟨g,cap,cur,rfl,hg,by rw [heap_setCell_other _ ⟨Xi,j,none⟩ g _ (hv g rfl)];exact hh,hr⟩
theorem TB.app {u w6:World} {base R X:Nat} {v v':Value} {is:List I3} {x:I3} {o:Obj} (h:TB u base R X v is) (hown:w6.ownsRow base 121 3 v' (is.length+1) (D5 is++[.int .i64 x.op,.string x.tx,.int .i64 x.to])) (hg:(u.alloc o).grownBy w6 v.ownBlock):TB (w6.setCell ⟨X,0,none⟩ v') base R X v' (is++[x])/\w6.heap[X]?=some (.cells #[v] 109 (0,0))/\Below base u w6:=by
 obtain ⟨r,xx,ow,l1,l2,l3,l4⟩:=h;have hb:=((Below.refl base u).alloc l3 o).grown hg X3 (fun k hk=>(ow.lt k hk).1);have hX:=(hb.block X l2).trans xx;refine ⟨⟨?_,?_,?_,l1,l2,by simpa using Nat.le_trans l3 hb.size,l4⟩,hX,hb⟩
 · rw [heap_setCell_other _ ⟨X,0,none⟩ R _ l4,hb.block R l1];exact r
 · exact heap_setCell_same w6 X 0 _ 109 v' hX
 · rw [List.length_append,List.length_singleton,m_]
   exact qi hown l2
theorem Ic {is:List I3} {x:I3} (h:Zl is) (hx:x.tx.size<=4000):Zl (is++[x]):=Rq h hx
theorem Qn {w:World} {base:Nat} {v:Value} {is:List I3} (h:w.ownsRow base 121 3 v is.length (D5 is)):∃ a cap,v=.slice a is.length cap/\Y9 base w a is:=by
 obtain ⟨a,cap,rfl,hat⟩:=U6 h;refine ⟨a,cap,rfl,?_⟩;rcases hat with h0 | ⟨b,off,rfl,hlt,hc⟩
 · exact .inl h0
 · exact .inr ⟨b,off,rfl,(h.lt b rfl).1,hlt,hc⟩
theorem c59 (q P:Nat) (w:World) (hp:P<=80000) (hr:o8 w q P):
 Calls prog 59 #[.pointer (some ⟨q,0,none⟩)] w fun e w'=>YB e w' 12 w.heap.size/\o8 w' q (P+60)/\But q w w':=by
 have hqw:=hr.lt;have hA0:Below w.heap.size w (w.alloc (.cells #[.slice none 0 0] 109)):=bA;have HR:=Q0 (hr.later hA0);clear hr;go_enter func59,ntmps59
 go_wp2_with fail
 refine (K6 (w.alloc (.cells #[.slice none 0 0] 109)) q P 4 O0 O0 O0 HR.out).mono ?_;rintro e w1 ⟨⟨r1,rfl,lV,lK⟩,h1,ho1⟩;have H1:=Q0 h1;have hs1:w1.heap.size=w.heap.size+1:=by rw [ho1.size];simp
 have hz1:w.heap.size+1<=w1.heap.size:=O0;have HT1:=Q0 ((ho1.block _ O0).trans (M5 rfl _));have HB1:=Q0 ((But.of_below hA0).trans ho1.but);clear h1 ho1 HR hs1;by_cases hgo:0<r1
 · have hA1:Below w1.heap.size w1 (w1.alloc (.cells Qu 3)):=bA
   have hq1:=H1.out.lt
   go_wp2_with fail
   refine (K6 (w1.alloc (.cells Qu 3)) q (P+1) 16 O0 O0 O0 (H1.out.later hA1)).mono ?_;rintro e w2 ⟨⟨r2,rfl,BR,a2e⟩,h2,ho2⟩;obtain ⟨z,hz⟩:=OI r2 BR a2e;have k2:w2.cell? ⟨w1.heap.size,r2.toNat,none⟩=some (.int .i64 z):=by rw [ho2.cell (by show w1.heap.size≠q;omega),<- hz];simp
   have H2:=Q0 h2;have HB2:=Q0 ((HB1.out.later hA1).trans ho2.but);have HT2:Hid (w2.heap[w.heap.size]?=some (.cells #[.slice none 0 0] 109 (0,0))):=by
    rw [Hid,ho2.block _ O0,Below.heap_alloc _ _ _ O0];exact HT1.out
   clear h2 ho2 HB1 HT1 H1 hz hA1
   go_wp2_with fail
   refine (nJ z w2).mono ?_;rintro e w3 ⟨⟨T,a,cap,rfl,hT,UT,hTs⟩,hb3⟩;have hz2:=F4 HT2.out;have HT3:Hid (w3.heap[w.heap.size]?=some (.cells #[.slice none 0 0] 109 (0,0))):=by rw [Hid,hb3.block _ hz2];exact HT2.out
   have c3:w3.cell? ⟨w.heap.size,0,none⟩=some (.slice none 0 0):=by rw [Lib.cell_of_heap HT3.out];rfl
   have f3:=Lib.frozen_of_heap HT3.out 0;have H3:=Q0 (H2.out.later hb3);have HB3:=Q0 (HB2.out.later hb3);have HI3:Hid (Y9 w.heap.size (w3.setCell ⟨w.heap.size,0,none⟩ (.slice a T.length cap)) a T):=(hT.set hz2).mono O0;clear hb3 HB2 H2 HT2;go_wp2;have er:=World.cell?_setCell_same w3 ⟨w.heap.size,0,none⟩ (.slice a T.length cap) c3;refine bodyPost_ret (v:=.agg #[.slice a T.length cap]) (by simp [results,Tryz.results59,go_sem,er]) rfl ⟨⟨T,a,cap,rfl,HI3.out,⟨UT.1,O0⟩,hTs⟩,?_,?_⟩
   · exact (K8 (H3.out.mono O0) hqw _ _)
   · exact K7 HB3.out Q8 _ _
 · obtain rfl:r1=0:=O0
   have hA1:Below w1.heap.size w1 (w1.alloc (.cells #[.slice none 0 0] 109)):=bA;have hq1:=H1.out.lt;have a0o:Hid (TB (w1.alloc (.cells #[.slice none 0 0] 109)) (w1.heap.size+1) w.heap.size w1.heap.size (.slice none 0 0) []):=⟨by rw [Below.heap_alloc _ _ _ O0];exact HT1.out,M5 rfl _,World.ownsRow_nil _ _ _ _,O0,O0,U0,O0⟩
   go_wp2_with fail
   refine (K6 (w1.alloc (.cells #[.slice none 0 0] 109)) q (P+1) 10 O0 O0 O0 (H1.out.later hA1)).mono ?_;rintro e w2 ⟨⟨r2,rfl,BR,a3M⟩,h2,ho2⟩;have H2:=Q0 h2;have HB2:=Q0 ((HB1.out.later hA1).trans ho2.but);have a0p:=Q0 (a0o.out.but ho2.but O0 O0 O0);clear h2 ho2 a0o hA1 HB1 HT1 H1;generalize hX:w1.heap.size=X at*;clear hX;obtain ⟨n2,rfl⟩:=Int.eq_ofNat_of_zero_le BR
   go_wp2_with fail
   go_loopw [4] (fun i wr=>∃ (k:Nat) (is:List I3) (v:Value),i=.int .i64 k/\(1<=k+is.length/\k+is.length<=10)/\Hid (Zl is)/\Hid (TB wr (X+1) w.heap.size X v is)/\Hid (o8 wr q (P+2+4*is.length))/\Hid (But q w wr)) (fun i _=>(intOf i).toNat)
   case atStart=>exact ⟨1+n2,[],.slice none 0 0,U0,⟨U0,X3⟩,T9 rfl,a0p,H2,HB2⟩
   case round=>
    clear a0p H2 HB2;obtain ⟨k,is,v,rfl,hk,hsm,htb,hrd,hbu⟩:=hrel;have qO:=htb.out.lt.2.2.1;by_cases hk0:k=0
    · subst hk0
      go_wp2_with fail
      refine (K6 wr q (P+2+4*is.length) 3 O0 O0 O0 hrd.out).mono ?_;rintro e w3 ⟨⟨r3,rfl,r30,r33⟩,h3,ho3⟩;have H3:=Q0 h3;have HB3:=Q0 (hbu.out.trans ho3.but);have bN:=Q0 (htb.out.but ho3.but O0 O0 O0);have hz3:=bN.out.lt.2.2.1;clear h3 ho3 htb hrd hbu;by_cases hr3:0<r3
      · obtain ⟨j0,hi,hz0,hz1,hz2⟩:=info_parts Jk
        obtain ⟨vc,vf,rc,rf⟩:=bN.out.cells;have hR3:w.heap.size<w3.heap.size:=O0;have hX3:X<w3.heap.size:=O0;have hown3:=bN.out.own
        go_wp2_with fail
        go_region_law (first | (refine Kh rfl (.tmp 56) (.tmp 58) 107 rfl (X+1) 121 j0 (.agg #[.int .i64 0,.string ⟨#[]⟩,.int .i64 0]) 3 32 underlying107 hi hz0 hz1 hz2 rfl J3 _ _ _ rfl (zM.alloc _) ⟨w4.heap.size,0,none⟩ 1 1 [_,_,_] rfl rfl (Ff rfl _ _ _ _) (by intro u hu;simp at hu;rcases hu with rfl | rfl | rfl <;> rfl) (by unfold maxLen;omega) O0 X3 ?_;intro v' w6 hown6 hgrow;have LM:=XN.out.app (x:=⟨10,⟨#[]⟩,0⟩) hown6 hgrow;have d1:w6.cell? ⟨X,0,none⟩=some v:=(by rw [Lib.cell_of_heap LM.2.1];rfl);have f1:w6.frozen? ⟨X,0,none⟩=false:=Lib.frozen_of_heap LM.2.1 0;have BS:Hid (TB (w6.setCell ⟨X,0,none⟩ v') (X+1) w.heap.size X v' (is++[⟨10,⟨#[]⟩,0⟩])):=LM.1;have tN:Hid (Below (X+1) w4 w6):=LM.2.2;obtain ⟨ao,BM,hvf⟩:=E8 hown6;subst hvf;clear hgrow LM hown6) | (go_simp;go_wp2_with (go_at_call 61;refine (Pw 10 _).mono ?_;rintro e w4 ⟨rfl,hb4⟩;have xU:Hid (Below w3.heap.size w3 w4):=(Below.refl _ _).drew.trans hb4;have XN:Hid (TB w4 (X+1) w.heap.size X v is):=bN.out.below xU.out;have zM:=XN.out.own;have zN:X+1<=w4.heap.size:=XN.out.lt.2.2.1;have vc4:=XN.out.cells.1;have hX4:X<w4.heap.size:=O0;clear hb4)))
        all_goals
         obtain ⟨xc,xf,rc6,rf6⟩:=BS.out.cells;obtain ⟨a',cap',hva,WO⟩:=Qn BS.out.own;have a2f:ao=a'/\is.length+1=(is++[(⟨10,⟨#[]⟩,0⟩:I3)]).length/\BM=cap':=by injection hva with h1 h2 h3;exact ⟨h1,h2,h3⟩
         obtain ⟨rfl,hll,rfl⟩:=a2f;clear hll;have HF:=Q0 WO;have TY:Hid (o8 (w6.setCell ⟨X,0,none⟩ (.slice ao (is.length+1) BM)) q (P+60)):=K8 (((H3.out.later xU.out).Q9 tN.out O0).mono O0) O0 _ _;have ZZ:Hid (But q w (w6.setCell ⟨X,0,none⟩ (.slice ao (is.length+1) BM))):=K7 ((HB3.out.later xU.out).Q9 tN.out O0) O0 _ _;clear hva WO vc vf d1 f1 tN xU XN bN BS hown3 zM vc4 H3 HB3 rc rf;generalize w6.setCell ⟨X,0,none⟩ (.slice ao (is.length+1) BM)=w7 at*;go_wp2;have er:=World.cell?_setCell_same w7 ⟨w.heap.size,0,none⟩ (.slice ao (is.length+1) BM) rc6;refine bodyPost_ret (v:=.agg #[.slice ao (is.length+1) BM]) (by simp [results,Tryz.results59,go_sem,er]) rfl ⟨⟨is++[⟨10,⟨#[]⟩,0⟩],ao,BM,U0,(HF.out.set O0).mono O0,⟨U0,X3⟩,Ic hsm.out (by show (⟨#[]⟩:ByteArray).size<=4000;decide)⟩,?_,?_⟩
         · exact K8 TY.out O0 _ _
         · exact K7 ZZ.out Q8 _ _
      · obtain rfl:r3=0:=O0
        obtain ⟨vc,vf,rc,rf⟩:=bN.out.cells;obtain ⟨a',cap',hva,WO⟩:=Qn bN.out.own;subst hva;have HF:=Q0 WO;clear WO;go_wp2;have er:=World.cell?_setCell_same w3 ⟨w.heap.size,0,none⟩ (.slice a' is.length cap') rc;refine bodyPost_ret (v:=.agg #[.slice a' is.length cap']) (by simp [results,Tryz.results59,go_sem,er]) rfl ⟨⟨is,a',cap',rfl,(HF.out.set O0).mono O0,⟨O0,O0⟩,hsm.out⟩,?_,?_⟩
        · exact K8 (H3.out.mono O0) hqw _ _
        · exact K7 HB3.out Q8 _ _
    · have hpos:(0:Int)<(k:Int):=O0
      have hAr:Below wr.heap.size wr (wr.alloc (.cells Au 3)):=bA;have hqr:q<wr.heap.size:=O0
      go_wp2_with fail
      refine (K6 (wr.alloc (.cells Au 3)) q (P+2+4*is.length) 14 O0 O0 O0 (hrd.out.later hAr)).mono ?_;rintro e w3 ⟨⟨r3,rfl,r30,a2g⟩,h3,ho3⟩;obtain ⟨z,hz⟩:=RI r3 r30 a2g;have k3:w3.cell? ⟨wr.heap.size,r3.toNat,none⟩=some (.int .i64 z):=by rw [ho3.cell (by show wr.heap.size≠q;omega),<- hz];simp
      have H3:=Q0 h3;have HB3:=Q0 ((hbu.out.later hAr).trans ho3.but);have bN:=Q0 ((htb.out.below hAr).but ho3.but O0 O0 O0);clear h3 ho3 hAr htb hrd hbu hz
      go_wp2_with fail
      refine (vI z _).mono ?_;rintro e w4 ⟨rfl,hw4⟩;obtain rfl:=hw4.symm;have hA3:Below w3.heap.size w3 (w3.alloc (.cells #[.int .i64 z,.string ⟨#[]⟩,.int .i64 0] 121)):=bA;have VQ:Hid (XI (w3.alloc (.cells #[.int .i64 z,.string ⟨#[]⟩,.int .i64 0] 121)) w3.heap.size z ⟨#[]⟩ 0):=M5 rfl _;have uO:=Q0 (bN.out.below hA3);have cZ:=Q0 (H3.out.later hA3);have ZP:=Q0 (HB3.out.later hA3);have hz3:=bN.out.lt.2.2.1;have mV:Hid (∀ g,v.ownBlock=some g->g≠w3.heap.size):=fun g hg=>by have:=(bN.out.own.lt g hg).2;omega
      clear bN H3 HB3 hA3;obtain ⟨j0,hi,hz0,hz1,hz2⟩:=info_parts Jk;cases hux:N7 z
      · cases hut:Y6 z
        · obtain ⟨⟨i0c,i1c,i2c⟩,_,_⟩:=(VQ.out).cells
          obtain ⟨vc,vf,_,_⟩:=(uO.out).cells;have CP:=Q0 uO.out;have uN:=(uO.out).own;have nV:=(uO.out).lt.2.2.1;have yU:Hid (o8 (w3.alloc (.cells #[.int .i64 z,.string ⟨#[]⟩,.int .i64 0] 121)) q (P+2+4*is.length+4)):=cZ.out.mono O0;have ER:=Q0 ZP.out
          go_wp2_with (at_builtin;refine wpList_append_own _ rfl _ _ 107 rfl (X+1) 121 j0 (.agg #[.int .i64 0,.string ⟨#[]⟩,.int .i64 0]) 3 32 underlying107 hi hz0 hz1 hz2 rfl J3 _ _ _ rfl (uN.alloc _) ⟨w3.heap.size+1,0,none⟩ 1 1 [_,_,_] rfl rfl (Ff U0 _ _ _ _) (by intro u hu;simp at hu;rcases hu with rfl | rfl | rfl <;> rfl) (by unfold maxLen;omega) O0 (by simp at nV ⊢;omega) ?_;intro v' w6 hown6 hgrow _;have LM:=CP.out.app (x:=⟨z,⟨#[]⟩,0⟩) hown6 hgrow;have d1:w6.cell? ⟨X,0,none⟩=some v:=(by rw [Lib.cell_of_heap LM.2.1];rfl);have f1:w6.frozen? ⟨X,0,none⟩=false:=Lib.frozen_of_heap LM.2.1 0;have BS:Hid (TB (w6.setCell ⟨X,0,none⟩ v') (X+1) w.heap.size X v' (is++[⟨z,⟨#[]⟩,0⟩])):=LM.1;have tN:Hid (Below (X+1) (w3.alloc (.cells #[.int .i64 z,.string ⟨#[]⟩,.int .i64 0] 121)) w6):=LM.2.2;obtain ⟨ao,BM,hvf⟩:=E8 hown6;subst hvf;clear hgrow LM hown6)
          go_roundw
          case rel=>
           refine ⟨k - 1,is++[⟨z,⟨#[]⟩,0⟩],_,by go_num,⟨X3,X3⟩,Ic hsm.out (by show (⟨#[]⟩:ByteArray).size<=4000;decide),BS,?_,?_⟩
           · have h:=K8 (yU.out.Q9 tN.out O0) (by show q<X;omega) 0 (.slice ao (is.length+1) BM)
             have e:P+2+4*(is++[(⟨z,⟨#[]⟩,0⟩:I3)]).length=P+2+4*is.length+4:=X3;rw [Hid,e];exact h
           · exact K7 (ER.out.Q9 tN.out O0) O0 _ _
          case measure=>simp [intOf];omega
        · go_wp2_with fail
          refine (K6 (w3.alloc (.cells #[.int .i64 z,.string ⟨#[]⟩,.int .i64 0] 121)) q (P+2+4*is.length+1) 8 O0 O0 O0 cZ.out).mono ?_;rintro e w5 ⟨⟨r5,rfl,yI,r58⟩,h5,QN⟩;have H5:=Q0 h5;have JX:=Q0 (ZP.out.trans QN.but);have XO:=Q0 (VQ.out.but QN.but O0);have YO:=Q0 (uO.out.but QN.but O0 O0 O0);have KX:Hid (XI (w5.setCell ⟨w3.heap.size,2,none⟩ (.int .i64 r5)) w3.heap.size z ⟨#[]⟩ r5):=XO.out.set2;have vO:Hid (TB (w5.setCell ⟨w3.heap.size,2,none⟩ (.int .i64 r5)) (X+1) w.heap.size X v is):=YO.out.NC O0 O0 mV.out;have ZM:Hid (o8 (w5.setCell ⟨w3.heap.size,2,none⟩ (.int .i64 r5)) q (P+2+4*is.length+1+1)):=K8 H5.out O0 _ _;have QL:Hid (But q w (w5.setCell ⟨w3.heap.size,2,none⟩ (.int .i64 r5))):=K7 JX.out O0 _ _;obtain ⟨⟨a50,a51,a52⟩,fb1,fb2⟩:=XO.out.cells;obtain ⟨vc5,vf5,_,_⟩:=YO.out.cells;clear h5 QN;obtain ⟨⟨i0c,i1c,i2c⟩,_,_⟩:=(KX.out).cells;obtain ⟨vc,vf,_,_⟩:=(vO.out).cells;have CP:=Q0 vO.out;have uN:=(vO.out).own;have nV:=(vO.out).lt.2.2.1;have yU:Hid (o8 (w5.setCell ⟨w3.heap.size,2,none⟩ (.int .i64 r5)) q (P+2+4*is.length+4)):=ZM.out.mono O0;have ER:=Q0 QL.out
          go_wp2_with (at_builtin;refine wpList_append_own _ rfl _ _ 107 rfl (X+1) 121 j0 (.agg #[.int .i64 0,.string ⟨#[]⟩,.int .i64 0]) 3 32 underlying107 hi hz0 hz1 hz2 rfl J3 _ _ _ rfl (uN.alloc _) ⟨w5.heap.size,0,none⟩ 1 1 [_,_,_] rfl rfl (Ff U0 _ _ _ _) (by intro u hu;simp at hu;rcases hu with rfl | rfl | rfl <;> rfl) (by unfold maxLen;omega) O0 (by simp at nV ⊢;omega) ?_;intro v' w6 hown6 hgrow _;have LM:=CP.out.app (x:=⟨z,⟨#[]⟩,r5⟩) hown6 hgrow;have d1:w6.cell? ⟨X,0,none⟩=some v:=(by rw [Lib.cell_of_heap LM.2.1];rfl);have f1:w6.frozen? ⟨X,0,none⟩=false:=Lib.frozen_of_heap LM.2.1 0;have BS:Hid (TB (w6.setCell ⟨X,0,none⟩ v') (X+1) w.heap.size X v' (is++[⟨z,⟨#[]⟩,r5⟩])):=LM.1;have tN:Hid (Below (X+1) (w5.setCell ⟨w3.heap.size,2,none⟩ (.int .i64 r5)) w6):=LM.2.2;obtain ⟨ao,BM,hvf⟩:=E8 hown6;subst hvf;clear hgrow LM hown6)
          go_roundw
          case rel=>
           refine ⟨k - 1,is++[⟨z,⟨#[]⟩,r5⟩],_,by go_num,⟨X3,X3⟩,Ic hsm.out (by show (⟨#[]⟩:ByteArray).size<=4000;decide),BS,?_,?_⟩
           · have h:=K8 (yU.out.Q9 tN.out O0) (by show q<X;omega) 0 (.slice ao (is.length+1) BM)
             have e:P+2+4*(is++[(⟨z,⟨#[]⟩,r5⟩:I3)]).length=P+2+4*is.length+4:=X3;rw [Hid,e];exact h
           · exact K7 (ER.out.Q9 tN.out O0) O0 _ _
          case measure=>simp [intOf];omega
      · cases hut:Y6 z
        · go_wp2_with fail
          refine (uI q (P+2+4*is.length+1) (w3.alloc (.cells #[.int .i64 z,.string ⟨#[]⟩,.int .i64 0] 121)) O0 cZ.out).mono ?_;rintro e w4 ⟨⟨tx,rfl,htx⟩,h4,hb4⟩;have H4:=Q0 h4;have mM:=Q0 (ZP.out.trans hb4);have ES:=Q0 (VQ.out.but hb4 O0);have XN:=Q0 (uO.out.but hb4 O0 O0 O0);have LX:Hid (XI (w4.setCell ⟨w3.heap.size,1,none⟩ (.string tx)) w3.heap.size z tx 0):=ES.out.set1;have WQ:Hid (TB (w4.setCell ⟨w3.heap.size,1,none⟩ (.string tx)) (X+1) w.heap.size X v is):=XN.out.NC O0 O0 mV.out;have PL:Hid (o8 (w4.setCell ⟨w3.heap.size,1,none⟩ (.string tx)) q (P+2+4*is.length+3)):=K8 H4.out O0 _ _;have dM:Hid (But q w (w4.setCell ⟨w3.heap.size,1,none⟩ (.string tx))):=K7 mM.out O0 _ _;obtain ⟨⟨a40,a41,a42⟩,fa1,fa2⟩:=ES.out.cells;clear h4 hb4 VQ uO cZ ZP;obtain ⟨vc4,vf4,_,_⟩:=XN.out.cells;obtain ⟨⟨i0c,i1c,i2c⟩,_,_⟩:=(LX.out).cells;obtain ⟨vc,vf,_,_⟩:=(WQ.out).cells;have CP:=Q0 WQ.out;have uN:=(WQ.out).own;have nV:=(WQ.out).lt.2.2.1;have yU:Hid (o8 (w4.setCell ⟨w3.heap.size,1,none⟩ (.string tx)) q (P+2+4*is.length+4)):=PL.out.mono O0;have ER:=Q0 dM.out
          go_wp2_with (at_builtin;refine wpList_append_own _ rfl _ _ 107 rfl (X+1) 121 j0 (.agg #[.int .i64 0,.string ⟨#[]⟩,.int .i64 0]) 3 32 underlying107 hi hz0 hz1 hz2 rfl J3 _ _ _ rfl (uN.alloc _) ⟨w4.heap.size,0,none⟩ 1 1 [_,_,_] rfl rfl (Ff U0 _ _ _ _) (by intro u hu;simp at hu;rcases hu with rfl | rfl | rfl <;> rfl) (by unfold maxLen;omega) O0 (by simp at nV ⊢;omega) ?_;intro v' w6 hown6 hgrow _;have LM:=CP.out.app (x:=⟨z,tx,0⟩) hown6 hgrow;have d1:w6.cell? ⟨X,0,none⟩=some v:=(by rw [Lib.cell_of_heap LM.2.1];rfl);have f1:w6.frozen? ⟨X,0,none⟩=false:=Lib.frozen_of_heap LM.2.1 0;have BS:Hid (TB (w6.setCell ⟨X,0,none⟩ v') (X+1) w.heap.size X v' (is++[⟨z,tx,0⟩])):=LM.1;have tN:Hid (Below (X+1) (w4.setCell ⟨w3.heap.size,1,none⟩ (.string tx)) w6):=LM.2.2;obtain ⟨ao,BM,hvf⟩:=E8 hown6;subst hvf;clear hgrow LM hown6)
          go_roundw
          case rel=>
           refine ⟨k - 1,is++[⟨z,tx,0⟩],_,by go_num,⟨X3,X3⟩,Ic hsm.out (by show tx.size<=4000;omega),BS,?_,?_⟩
           · have h:=K8 (yU.out.Q9 tN.out O0) (by show q<X;omega) 0 (.slice ao (is.length+1) BM)
             have e:P+2+4*(is++[(⟨z,tx,0⟩:I3)]).length=P+2+4*is.length+4:=X3;rw [Hid,e];exact h
           · exact K7 (ER.out.Q9 tN.out O0) O0 _ _
          case measure=>simp [intOf];omega
        · go_wp2_with fail
          refine (uI q (P+2+4*is.length+1) (w3.alloc (.cells #[.int .i64 z,.string ⟨#[]⟩,.int .i64 0] 121)) O0 cZ.out).mono ?_;rintro e w4 ⟨⟨tx,rfl,htx⟩,h4,hb4⟩;have H4:=Q0 h4;have mM:=Q0 (ZP.out.trans hb4);have ES:=Q0 (VQ.out.but hb4 O0);have XN:=Q0 (uO.out.but hb4 O0 O0 O0);have LX:Hid (XI (w4.setCell ⟨w3.heap.size,1,none⟩ (.string tx)) w3.heap.size z tx 0):=ES.out.set1;have WQ:Hid (TB (w4.setCell ⟨w3.heap.size,1,none⟩ (.string tx)) (X+1) w.heap.size X v is):=XN.out.NC O0 O0 mV.out;have PL:Hid (o8 (w4.setCell ⟨w3.heap.size,1,none⟩ (.string tx)) q (P+2+4*is.length+3)):=K8 H4.out O0 _ _;have dM:Hid (But q w (w4.setCell ⟨w3.heap.size,1,none⟩ (.string tx))):=K7 mM.out O0 _ _;obtain ⟨⟨a40,a41,a42⟩,fa1,fa2⟩:=ES.out.cells;clear h4 hb4 VQ uO cZ ZP
          go_wp2_with fail
          refine (K6 (w4.setCell ⟨w3.heap.size,1,none⟩ (.string tx)) q (P+2+4*is.length+3) 8 O0 O0 O0 PL.out).mono ?_;rintro e w5 ⟨⟨r5,rfl,yI,r58⟩,h5,QN⟩;have H5:=Q0 h5;have JX:=Q0 (dM.out.trans QN.but);have XO:=Q0 (LX.out.but QN.but O0);have YO:=Q0 (WQ.out.but QN.but O0 O0 O0);have KX:Hid (XI (w5.setCell ⟨w3.heap.size,2,none⟩ (.int .i64 r5)) w3.heap.size z tx r5):=XO.out.set2;have vO:Hid (TB (w5.setCell ⟨w3.heap.size,2,none⟩ (.int .i64 r5)) (X+1) w.heap.size X v is):=YO.out.NC O0 O0 mV.out;have ZM:Hid (o8 (w5.setCell ⟨w3.heap.size,2,none⟩ (.int .i64 r5)) q (P+2+4*is.length+3+1)):=K8 H5.out O0 _ _;have QL:Hid (But q w (w5.setCell ⟨w3.heap.size,2,none⟩ (.int .i64 r5))):=K7 JX.out O0 _ _;obtain ⟨⟨a50,a51,a52⟩,fb1,fb2⟩:=XO.out.cells;obtain ⟨vc5,vf5,_,_⟩:=YO.out.cells;clear h5 QN;obtain ⟨⟨i0c,i1c,i2c⟩,_,_⟩:=(KX.out).cells;obtain ⟨vc,vf,_,_⟩:=(vO.out).cells;have CP:=Q0 vO.out;have uN:=(vO.out).own;have nV:=(vO.out).lt.2.2.1;have yU:Hid (o8 (w5.setCell ⟨w3.heap.size,2,none⟩ (.int .i64 r5)) q (P+2+4*is.length+4)):=ZM.out.mono O0;have ER:=Q0 QL.out
          go_wp2_with (at_builtin;refine wpList_append_own _ rfl _ _ 107 rfl (X+1) 121 j0 (.agg #[.int .i64 0,.string ⟨#[]⟩,.int .i64 0]) 3 32 underlying107 hi hz0 hz1 hz2 rfl J3 _ _ _ rfl (uN.alloc _) ⟨w5.heap.size,0,none⟩ 1 1 [_,_,_] rfl rfl (Ff U0 _ _ _ _) (by intro u hu;simp at hu;rcases hu with rfl | rfl | rfl <;> rfl) (by unfold maxLen;omega) O0 (by simp at nV ⊢;omega) ?_;intro v' w6 hown6 hgrow _;have LM:=CP.out.app (x:=⟨z,tx,r5⟩) hown6 hgrow;have d1:w6.cell? ⟨X,0,none⟩=some v:=(by rw [Lib.cell_of_heap LM.2.1];rfl);have f1:w6.frozen? ⟨X,0,none⟩=false:=Lib.frozen_of_heap LM.2.1 0;have BS:Hid (TB (w6.setCell ⟨X,0,none⟩ v') (X+1) w.heap.size X v' (is++[⟨z,tx,r5⟩])):=LM.1;have tN:Hid (Below (X+1) (w5.setCell ⟨w3.heap.size,2,none⟩ (.int .i64 r5)) w6):=LM.2.2;obtain ⟨ao,BM,hvf⟩:=E8 hown6;subst hvf;clear hgrow LM hown6)
          go_roundw
          case rel=>
           refine ⟨k - 1,is++[⟨z,tx,r5⟩],_,by go_num,⟨X3,X3⟩,Ic hsm.out (by show tx.size<=4000;omega),BS,?_,?_⟩
           · have h:=K8 (yU.out.Q9 tN.out O0) (by show q<X;omega) 0 (.slice ao (is.length+1) BM)
             have e:P+2+4*(is++[(⟨z,tx,r5⟩:I3)]).length=P+2+4*is.length+4:=X3;rw [Hid,e];exact h
           · exact K7 (ER.out.Q9 tN.out O0) O0 _ _
          case measure=>simp [intOf];omega
end Go.Proofs.YtdpoaadafcaffaaGreatDoor
