import Derived.Test.YthjhakdpikdoeaaGreatDoorZ39
set_option linter.unusedVariables false
set_option maxHeartbeats 8000000
set_option maxRecDepth 100000
namespace Go.Proofs.YthjhakdpikdoeaaGreatDoor
open Proofs.Tryz
open Go.RowKit
theorem ins_lit (w:World) (T:List I3):InsAt (w.alloc (.cells (insCells T).toArray 92)) (some ⟨w.heap.size,0,none⟩) T:=by
 rcases Nat.eq_zero_or_pos T.length with h0 | h0
 · exact .inl (List.length_eq_zero_iff.1 h0)
 · refine .inr ⟨w.heap.size,0,rfl,sm_,fun i hi=>?_⟩
   obtain ⟨h1,h2,h3⟩:=insCells_get T i hi;simp [h1,h2,h3]
def SmallT (T:List I3):Prop:=∀ i,(T.getD i i3z).tx.size<=4000
def InsFrom (B:Nat) (w:World) (a:Option Addr) (T:List I3):Prop:=T=[]\/∃ b off,a=some ⟨b,off,none⟩/\B<=b/\b<w.heap.size/\∀ i,i<T.length->w.cell? ⟨b,off+i*3,none⟩=some (.int .i64 (T.getD i i3z).op)/\w.cell? ⟨b,off+i*3+1,none⟩=some (.string (T.getD i i3z).tx)/\w.cell? ⟨b,off+i*3+2,none⟩=some (.int .i64 (T.getD i i3z).to)
theorem InsFrom.to {B:Nat} {w:World} {a:Option Addr} {T:List I3} (h:InsFrom B w a T):InsAt w a T:=by
 rcases h with h | ⟨b,off,h1,_,h2,h3⟩
 · exact .inl h
 · exact .inr ⟨b,off,h1,h2,h3⟩
theorem InsFrom.mono {B B':Nat} {w:World} {a:Option Addr} {T:List I3} (h:InsFrom B w a T) (hB:B'<=B):InsFrom B' w a T:=by
 rcases h with h | ⟨b,off,h1,h0,h2,h3⟩
 · exact .inl h
 · exact .inr ⟨b,off,h1,Nat.le_trans hB h0,h2,h3⟩
theorem InsFrom.but {B q:Nat} {w w':World} {a:Option Addr} {T:List I3} (h:InsFrom B w a T) (hk:But q w w') (hq:q<B):InsFrom B w' a T:=by
 rcases h with h | ⟨b,off,h1,h0,h2,h3⟩
 · exact .inl h
 · refine .inr ⟨b,off,h1,h0,Nat.lt_of_lt_of_le h2 hk.size,fun i hi=>?_⟩
   rw [hk.cell (by exact h2) (by show b≠q;omega),hk.cell (by exact h2) (by show b≠q;omega),hk.cell (by exact h2) (by show b≠q;omega)];exact h3 i hi
theorem InsFrom.set {B X j:Nat} {v:Value} {w:World} {a:Option Addr} {T:List I3} (h:InsFrom B w a T) (hX:X<B):InsFrom B (w.setCell ⟨X,j,none⟩ v) a T:=by
 rcases h with h | ⟨b,off,h1,h0,h2,h3⟩
 · exact .inl h
 · have e:∀ k,(w.setCell ⟨X,j,none⟩ v).cell? ⟨b,k,none⟩=w.cell? ⟨b,k,none⟩:=fun k=>World.cell?_setCell_other _ _ _ _ (fun e=>by injection e with e _;omega)
   refine .inr ⟨b,off,h1,h0,by simpa using h2,fun i hi=>?_⟩;rw [e,e,e];exact h3 i hi
def IsTool (e:Ending) (w':World) (n B:Nat):Prop:=∃ (T:List I3) (a:Option Addr) (cap:Nat),e=.returned (.agg #[.slice a T.length cap])/\InsFrom B w' a T/\(1<=T.length/\T.length<=n)/\SmallT T
def lit1 (op:Int):Obj:=.cells #[.int .i64 op,.string ⟨#[]⟩,.int .i64 0] 92
theorem var_cells {w u:World} {op:Int} (h:Below (w.heap.size+1) (w.alloc (lit1 op)) u):u.cell? ⟨w.heap.size,0,none⟩=some (.int .i64 op)/\u.cell? ⟨w.heap.size,1,none⟩=some (.string ⟨#[]⟩)/\u.cell? ⟨w.heap.size,2,none⟩=some (.int .i64 0):=by
 have e:∀ j,u.cell? ⟨w.heap.size,j,none⟩=(w.alloc (lit1 op)).cell? ⟨w.heap.size,j,none⟩:=fun j=>h.cell sm_;rw [e,e,e];unfold lit1;simp
structure V5 (u:World) (R B1 B2 B3 B4 B5:Nat):Prop where
 a:u.cell? ⟨B1,0,none⟩=some (.int .i64 2)/\u.cell? ⟨B1,1,none⟩=some (.string ⟨#[]⟩)/\u.cell? ⟨B1,2,none⟩=some (.int .i64 0)
 b:u.cell? ⟨B2,0,none⟩=some (.int .i64 3)/\u.cell? ⟨B2,1,none⟩=some (.string ⟨#[]⟩)/\u.cell? ⟨B2,2,none⟩=some (.int .i64 0)
 c:u.cell? ⟨B3,0,none⟩=some (.int .i64 5)/\u.cell? ⟨B3,1,none⟩=some (.string ⟨#[]⟩)/\u.cell? ⟨B3,2,none⟩=some (.int .i64 0)
 d:u.cell? ⟨B4,0,none⟩=some (.int .i64 10)/\u.cell? ⟨B4,1,none⟩=some (.string ⟨#[]⟩)/\u.cell? ⟨B4,2,none⟩=some (.int .i64 0)
 e:u.cell? ⟨B5,0,none⟩=some (.int .i64 7)/\u.cell? ⟨B5,1,none⟩=some (.string ⟨#[]⟩)/\u.cell? ⟨B5,2,none⟩=some (.int .i64 0)
 r:u.cell? ⟨R,0,none⟩=some (.slice none 0 0)/\u.frozen? ⟨R,0,none⟩=false
 z:B1<u.heap.size/\B2<u.heap.size/\B3<u.heap.size/\B4<u.heap.size/\B5<u.heap.size/\R<u.heap.size
theorem V5.later {u u':World} {R B1 B2 B3 B4 B5:Nat} (h:V5 u R B1 B2 B3 B4 B5) (hb:Below u.heap.size u u'):V5 u' R B1 B2 B3 B4 B5:=by
 obtain ⟨a,b,c,d,e,r,z1,z2,z3,z4,z5,z6⟩:=h;have hz:=hb.size;refine ⟨?_,?_,?_,?_,?_,?_,om_,om_,om_,om_,om_,om_⟩
 · rw [hb.cell (by exact z1),hb.cell (by exact z1),hb.cell (by exact z1)];exact a
 · rw [hb.cell (by exact z2),hb.cell (by exact z2),hb.cell (by exact z2)];exact b
 · rw [hb.cell (by exact z3),hb.cell (by exact z3),hb.cell (by exact z3)];exact c
 · rw [hb.cell (by exact z4),hb.cell (by exact z4),hb.cell (by exact z4)];exact d
 · rw [hb.cell (by exact z5),hb.cell (by exact z5),hb.cell (by exact z5)];exact e
 · rw [hb.cell (by exact z6),hb.frozen (by exact z6)];exact r
theorem past0 {w:World} {p:Addr} {v:Value} (hp:p.block<w.heap.size) (h:w.cell? p=some v) (o:Obj):(w.alloc o).cell? p=some v:=by
 rw [((Below.refl w.heap.size w).alloc lr_ o).cell hp];exact h
theorem tool_lit (T:List I3) (U:World) (B B0:Nat) (hU:U.heap.size=B) (hB:B0<=B):InsFrom B0 (U.alloc (.cells (insCells T).toArray 92)) (some ⟨B,0,none⟩) T:=by
 subst hU;rcases Nat.eq_zero_or_pos T.length with h0 | h0
 · exact .inl (List.length_eq_zero_iff.1 h0)
 · refine .inr ⟨U.heap.size,0,rfl,hB,sm_,fun i hi=>?_⟩
   obtain ⟨h1,h2,h3⟩:=insCells_get T i hi;simp [h1,h2,h3]
theorem small_lit {T:List I3} (h:(T.all fun x=>decide (x.tx.size<=4000))=true):SmallT T:=by
 refine getD_small3 fun i hi=>?_;rw [List.all_eq_true] at h;have e:T.getD i i3z=T[i]:=by simp [hi]
 rw [e];simpa using h _ (List.getElem_mem hi)
theorem c45 (k:Int) (w:World):
 Calls prog 45 #[.int .i64 k] w fun e w'=>IsTool e w' 10 w.heap.size/\Below w.heap.size w w':=by
 go_enter func45,ntmps45
 go_wp2_with fail
 refine (c47 2 _).mono ?_;rintro e w1 ⟨rfl,hb1⟩
 go_wp2_with fail
 refine (c47 3 _).mono ?_;rintro e w2 ⟨rfl,hb2⟩
 go_wp2_with fail
 refine (c47 5 _).mono ?_;rintro e w3 ⟨rfl,hb3⟩
 go_wp2_with fail
 refine (c47 10 _).mono ?_;rintro e w4 ⟨rfl,hb4⟩
 go_wp2_with fail
 refine (c47 7 _).mono ?_;rintro e w5 ⟨rfl,hb5⟩;have s1:=hb1.size;have s2:=hb2.size;have s3:=hb3.size;have s4:=hb4.size;have s5:=hb5.size;simp at s1 s2 s3 s4 s5;have g1:Below (w.heap.size+1) (w.alloc (.cells #[.slice none 0 0] 87)) w1:=by have h:=hb1;simp at h;exact h
 have g2:Below (w1.heap.size+1) (w1.alloc (lit1 2)) w2:=by have h:=hb2;simp at h;exact h
 have g3:Below (w2.heap.size+1) (w2.alloc (lit1 3)) w3:=by have h:=hb3;simp at h;exact h
 have g4:Below (w3.heap.size+1) (w3.alloc (lit1 5)) w4:=by have h:=hb4;simp at h;exact h
 have g5:Below (w4.heap.size+1) (w4.alloc (lit1 10)) w5:=by have h:=hb5;simp at h;exact h
 have a1:∀ (u:World) (o:Obj),Below u.heap.size u (u.alloc o):=fun u o=>bA;have t5:Below w4.heap.size w4 w5:=(a1 w4 _).trans (g5.mono om_);have t4:Below w3.heap.size w3 w5:=((a1 w3 _).trans (g4.mono om_)).trans (t5.mono om_);have t3:Below w2.heap.size w2 w5:=((a1 w2 _).trans (g3.mono om_)).trans (t4.mono om_);have t2:Below w1.heap.size w1 w5:=((a1 w1 _).trans (g2.mono om_)).trans (t3.mono om_);have f1:Below (w.heap.size+1) (w.alloc (.cells #[.slice none 0 0] 87)) w5:=g1.trans (t2.mono om_);have hBW:Below w.heap.size w w5:=(a1 w _).trans (f1.mono om_);have HV:Hid (V5 (w5.alloc (lit1 7)) w.heap.size w1.heap.size w2.heap.size w3.heap.size w4.heap.size w5.heap.size):=by
  have hA:=a1 w5 (lit1 7);refine ⟨var_cells ((g2.trans (t3.mono om_)).trans (hA.mono om_)),var_cells ((g3.trans (t4.mono om_)).trans (hA.mono om_)),var_cells ((g4.trans (t5.mono om_)).trans (hA.mono om_)),var_cells (g5.trans (hA.mono om_)),var_cells (Below.refl _ _),?_,so_⟩;rw [(f1.trans (hA.mono om_)).cell sm_,(f1.trans (hA.mono om_)).frozen sm_];simp
 have HB5:Hid (Below w.heap.size w w5):=hBW;have HBW:Hid (Below w.heap.size w (w5.alloc (lit1 7))):=hBW.alloc om_ _;obtain ⟨p10,p11,p12⟩:=var_cells (g2.trans (t3.mono om_));obtain ⟨p20,p21,p22⟩:=var_cells (g3.trans (t4.mono om_));obtain ⟨p30,p31,p32⟩:=var_cells (g4.trans (t5.mono om_));obtain ⟨p40,p41,p42⟩:=var_cells g5;have pr:w5.cell? ⟨w.heap.size,0,none⟩=some (.slice none 0 0):=by rw [f1.cell sm_];simp
 have pf:w5.frozen? ⟨w.heap.size,0,none⟩=false:=by rw [f1.frozen sm_];simp
 have z1:w1.heap.size<w5.heap.size:=om_;have z2:w2.heap.size<w5.heap.size:=om_;have z3:w3.heap.size<w5.heap.size:=om_;have z4:w4.heap.size<w5.heap.size:=om_;have z6:w.heap.size<w5.heap.size:=om_;have n1:¬ w.heap.size=w1.heap.size:=om_;have m1:¬ w1.heap.size=w.heap.size:=om_;have n2:¬ w.heap.size=w2.heap.size:=om_;have m2:¬ w2.heap.size=w.heap.size:=om_;have n3:¬ w.heap.size=w3.heap.size:=om_;have m3:¬ w3.heap.size=w.heap.size:=om_;have n4:¬ w.heap.size=w4.heap.size:=om_;have m4:¬ w4.heap.size=w.heap.size:=om_;have n5:¬ w.heap.size=w5.heap.size:=om_;have m5:¬ w5.heap.size=w.heap.size:=om_;clear hb1 hb2 hb3 hb4 hb5 g1 g2 g3 g4 g5 t2 t3 t4 t5 f1 hBW a1 s1 s2 s3 s4 s5;by_cases h0:k=0
 · subst h0
   go_wp2_with fail
   change Code.wp _ _ _ _ (w5.alloc (lit1 7));clear p10 p11 p12 p20 p21 p22 p30 p31 p32 p40 p41 p42 pr pf z1 z2 z3 z4 z6;generalize (w5.alloc (lit1 7))=W at*;obtain ⟨⟨p10,p11,p12⟩,⟨p20,p21,p22⟩,⟨p30,p31,p32⟩,⟨p40,p41,p42⟩,⟨p50,p51,p52⟩,⟨pr,pf⟩,z1,z2,z3,z4,z5,z6⟩:=HV.out
   go_region_held3 (fun u=>(u.cell? ⟨w1.heap.size,0,none⟩=some (.int .i64 2)/\u.cell? ⟨w1.heap.size,1,none⟩=some (.string ⟨#[]⟩)/\u.cell? ⟨w1.heap.size,2,none⟩=some (.int .i64 0))/\(u.cell? ⟨w2.heap.size,0,none⟩=some (.int .i64 3)/\u.cell? ⟨w2.heap.size,1,none⟩=some (.string ⟨#[]⟩)/\u.cell? ⟨w2.heap.size,2,none⟩=some (.int .i64 0))/\(u.cell? ⟨w3.heap.size,0,none⟩=some (.int .i64 5)/\u.cell? ⟨w3.heap.size,1,none⟩=some (.string ⟨#[]⟩)/\u.cell? ⟨w3.heap.size,2,none⟩=some (.int .i64 0))/\(u.cell? ⟨w4.heap.size,0,none⟩=some (.int .i64 10)/\u.cell? ⟨w4.heap.size,1,none⟩=some (.string ⟨#[]⟩)/\u.cell? ⟨w4.heap.size,2,none⟩=some (.int .i64 0))/\(u.cell? ⟨w5.heap.size,0,none⟩=some (.int .i64 7)/\u.cell? ⟨w5.heap.size,1,none⟩=some (.string ⟨#[]⟩)/\u.cell? ⟨w5.heap.size,2,none⟩=some (.int .i64 0))) (go_keep) (first | (go_at_call 80;refine (c80 1 ⟨#[33]⟩ _).mono ?_;rintro e w6 ⟨rfl,hb6⟩;have HB6:Hid (Below W.heap.size W w6):=(Below.refl _ _).drew.trans hb6;obtain ⟨⟨p10',p11',p12'⟩,⟨p20',p21',p22'⟩,⟨p30',p31',p32'⟩,⟨p40',p41',p42'⟩,⟨p50',p51',p52'⟩,⟨pr',pf'⟩,z1',z2',z3',z4',z5',z6'⟩:=HV.out.later HB6.out))
   all_goals
    go_wp2;have er:=World.cell?_setCell_same w6 ⟨w.heap.size,0,none⟩ (.slice (some ⟨w6.heap.size,0,none⟩) 7 7) pr';have er1:=fun o=>past0 (by simpa using z6') er o;refine bodyPost_ret (v:=.agg #[.slice (some ⟨w6.heap.size,0,none⟩) 7 7]) (by simp [results,Tryz.results45,go_sem,er1]) rfl ⟨⟨[⟨2,⟨#[]⟩,0⟩,⟨7,⟨#[]⟩,0⟩,⟨3,⟨#[]⟩,0⟩,⟨5,⟨#[]⟩,0⟩,⟨1,⟨#[33]⟩,0⟩,⟨5,⟨#[]⟩,0⟩,⟨10,⟨#[]⟩,0⟩],some ⟨w6.heap.size,0,none⟩,7,rfl,?_,dc_,small_lit rfl⟩,?_⟩
    · exact tool_lit [⟨2,⟨#[]⟩,0⟩,⟨7,⟨#[]⟩,0⟩,⟨3,⟨#[]⟩,0⟩,⟨5,⟨#[]⟩,0⟩,⟨1,⟨#[33]⟩,0⟩,⟨5,⟨#[]⟩,0⟩,⟨10,⟨#[]⟩,0⟩] _ _ _ sm_ om_
    · exact ((bT HBW.out HB6.out).setCell sm_ _).alloc so_ _
 by_cases h1:k=1
 · subst h1
   go_wp2_with fail
   go_wp2;have er:=World.cell?_setCell_same w5 ⟨w.heap.size,0,none⟩ (.slice (some ⟨w5.heap.size+1,0,none⟩) 9 9) pr;have er2:=fun o o2=>past0 so_ (past0 (by simpa using z6) er o) o2;refine bodyPost_ret (v:=.agg #[.slice (some ⟨w5.heap.size+1,0,none⟩) 9 9]) (by simp [results,Tryz.results45,go_sem,er2]) rfl ⟨⟨[⟨2,⟨#[]⟩,0⟩,⟨7,⟨#[]⟩,0⟩,⟨3,⟨#[]⟩,0⟩,⟨5,⟨#[]⟩,0⟩,⟨2,⟨#[]⟩,0⟩,⟨7,⟨#[]⟩,1⟩,⟨3,⟨#[]⟩,0⟩,⟨5,⟨#[]⟩,0⟩,⟨10,⟨#[]⟩,0⟩],some ⟨w5.heap.size+1,0,none⟩,9,rfl,?_,dc_,small_lit rfl⟩,?_⟩
   · exact tool_lit [⟨2,⟨#[]⟩,0⟩,⟨7,⟨#[]⟩,0⟩,⟨3,⟨#[]⟩,0⟩,⟨5,⟨#[]⟩,0⟩,⟨2,⟨#[]⟩,0⟩,⟨7,⟨#[]⟩,1⟩,⟨3,⟨#[]⟩,0⟩,⟨5,⟨#[]⟩,0⟩,⟨10,⟨#[]⟩,0⟩] _ _ _ sm_ om_
   · exact ((HB5.out.setCell sm_ _).alloc so_ _).alloc so_ _
 by_cases h2:k=2
 · subst h2
   go_wp2_with fail
   go_wp2;have er:=World.cell?_setCell_same w5 ⟨w.heap.size,0,none⟩ (.slice (some ⟨w5.heap.size+1,0,none⟩) 7 7) pr;have er2:=fun o o2=>past0 so_ (past0 (by simpa using z6) er o) o2;refine bodyPost_ret (v:=.agg #[.slice (some ⟨w5.heap.size+1,0,none⟩) 7 7]) (by simp [results,Tryz.results45,go_sem,er2]) rfl ⟨⟨[⟨2,⟨#[]⟩,0⟩,⟨7,⟨#[]⟩,0⟩,⟨3,⟨#[]⟩,0⟩,⟨7,⟨#[]⟩,0⟩,⟨3,⟨#[]⟩,0⟩,⟨5,⟨#[]⟩,0⟩,⟨10,⟨#[]⟩,0⟩],some ⟨w5.heap.size+1,0,none⟩,7,rfl,?_,dc_,small_lit rfl⟩,?_⟩
   · exact tool_lit [⟨2,⟨#[]⟩,0⟩,⟨7,⟨#[]⟩,0⟩,⟨3,⟨#[]⟩,0⟩,⟨7,⟨#[]⟩,0⟩,⟨3,⟨#[]⟩,0⟩,⟨5,⟨#[]⟩,0⟩,⟨10,⟨#[]⟩,0⟩] _ _ _ sm_ om_
   · exact ((HB5.out.setCell sm_ _).alloc so_ _).alloc so_ _
 by_cases h3:k=3
 · subst h3
   go_wp2_with fail
   change Code.wp _ _ _ _ (w5.alloc (lit1 7));clear p10 p11 p12 p20 p21 p22 p30 p31 p32 p40 p41 p42 pr pf z1 z2 z3 z4 z6;generalize (w5.alloc (lit1 7))=W at*;obtain ⟨⟨p10,p11,p12⟩,⟨p20,p21,p22⟩,⟨p30,p31,p32⟩,⟨p40,p41,p42⟩,⟨p50,p51,p52⟩,⟨pr,pf⟩,z1,z2,z3,z4,z5,z6⟩:=HV.out
   go_region_held3 (fun u=>(u.cell? ⟨w1.heap.size,0,none⟩=some (.int .i64 2)/\u.cell? ⟨w1.heap.size,1,none⟩=some (.string ⟨#[]⟩)/\u.cell? ⟨w1.heap.size,2,none⟩=some (.int .i64 0))/\(u.cell? ⟨w2.heap.size,0,none⟩=some (.int .i64 3)/\u.cell? ⟨w2.heap.size,1,none⟩=some (.string ⟨#[]⟩)/\u.cell? ⟨w2.heap.size,2,none⟩=some (.int .i64 0))/\(u.cell? ⟨w3.heap.size,0,none⟩=some (.int .i64 5)/\u.cell? ⟨w3.heap.size,1,none⟩=some (.string ⟨#[]⟩)/\u.cell? ⟨w3.heap.size,2,none⟩=some (.int .i64 0))/\(u.cell? ⟨w4.heap.size,0,none⟩=some (.int .i64 10)/\u.cell? ⟨w4.heap.size,1,none⟩=some (.string ⟨#[]⟩)/\u.cell? ⟨w4.heap.size,2,none⟩=some (.int .i64 0))/\(u.cell? ⟨w5.heap.size,0,none⟩=some (.int .i64 7)/\u.cell? ⟨w5.heap.size,1,none⟩=some (.string ⟨#[]⟩)/\u.cell? ⟨w5.heap.size,2,none⟩=some (.int .i64 0))) (go_keep) (first | (go_at_call 47;refine (c47 4 _).mono ?_;rintro e w6 ⟨rfl,hb6⟩;have HB6:Hid (Below W.heap.size W w6):=(Below.refl _ _).drew.trans hb6;obtain ⟨⟨p10',p11',p12'⟩,⟨p20',p21',p22'⟩,⟨p30',p31',p32'⟩,⟨p40',p41',p42'⟩,⟨p50',p51',p52'⟩,⟨pr',pf'⟩,z1',z2',z3',z4',z5',z6'⟩:=HV.out.later HB6.out))
   all_goals
    go_wp2;have er:=World.cell?_setCell_same w6 ⟨w.heap.size,0,none⟩ (.slice (some ⟨w6.heap.size,0,none⟩) 9 9) pr';have er1:=fun o=>past0 (by simpa using z6') er o;refine bodyPost_ret (v:=.agg #[.slice (some ⟨w6.heap.size,0,none⟩) 9 9]) (by simp [results,Tryz.results45,go_sem,er1]) rfl ⟨⟨[⟨2,⟨#[]⟩,0⟩,⟨7,⟨#[]⟩,0⟩,⟨4,⟨#[]⟩,0⟩,⟨8,⟨#[48]⟩,7⟩,⟨2,⟨#[]⟩,0⟩,⟨7,⟨#[]⟩,0⟩,⟨3,⟨#[]⟩,0⟩,⟨5,⟨#[]⟩,0⟩,⟨10,⟨#[]⟩,0⟩],some ⟨w6.heap.size,0,none⟩,9,rfl,?_,dc_,small_lit rfl⟩,?_⟩
    · exact tool_lit [⟨2,⟨#[]⟩,0⟩,⟨7,⟨#[]⟩,0⟩,⟨4,⟨#[]⟩,0⟩,⟨8,⟨#[48]⟩,7⟩,⟨2,⟨#[]⟩,0⟩,⟨7,⟨#[]⟩,0⟩,⟨3,⟨#[]⟩,0⟩,⟨5,⟨#[]⟩,0⟩,⟨10,⟨#[]⟩,0⟩] _ _ _ sm_ om_
    · exact ((bT HBW.out HB6.out).setCell sm_ _).alloc so_ _
 by_cases h4:k=4
 · subst h4
   go_wp2_with fail
   go_wp2;have er:=World.cell?_setCell_same w5 ⟨w.heap.size,0,none⟩ (.slice (some ⟨w5.heap.size+1,0,none⟩) 9 9) pr;have er2:=fun o o2=>past0 so_ (past0 (by simpa using z6) er o) o2;refine bodyPost_ret (v:=.agg #[.slice (some ⟨w5.heap.size+1,0,none⟩) 9 9]) (by simp [results,Tryz.results45,go_sem,er2]) rfl ⟨⟨[⟨2,⟨#[]⟩,0⟩,⟨7,⟨#[]⟩,0⟩,⟨3,⟨#[]⟩,0⟩,⟨8,⟨#[118,49]⟩,7⟩,⟨2,⟨#[]⟩,0⟩,⟨7,⟨#[]⟩,1⟩,⟨3,⟨#[]⟩,0⟩,⟨5,⟨#[]⟩,0⟩,⟨10,⟨#[]⟩,0⟩],some ⟨w5.heap.size+1,0,none⟩,9,rfl,?_,dc_,small_lit rfl⟩,?_⟩
   · exact tool_lit [⟨2,⟨#[]⟩,0⟩,⟨7,⟨#[]⟩,0⟩,⟨3,⟨#[]⟩,0⟩,⟨8,⟨#[118,49]⟩,7⟩,⟨2,⟨#[]⟩,0⟩,⟨7,⟨#[]⟩,1⟩,⟨3,⟨#[]⟩,0⟩,⟨5,⟨#[]⟩,0⟩,⟨10,⟨#[]⟩,0⟩] _ _ _ sm_ om_
   · exact ((HB5.out.setCell sm_ _).alloc so_ _).alloc so_ _
 by_cases h5:k=5
 · subst h5
   go_wp2_with fail
   change Code.wp _ _ _ _ (w5.alloc (lit1 7));clear p10 p11 p12 p20 p21 p22 p30 p31 p32 p40 p41 p42 pr pf z1 z2 z3 z4 z6;generalize (w5.alloc (lit1 7))=W at*;obtain ⟨⟨p10,p11,p12⟩,⟨p20,p21,p22⟩,⟨p30,p31,p32⟩,⟨p40,p41,p42⟩,⟨p50,p51,p52⟩,⟨pr,pf⟩,z1,z2,z3,z4,z5,z6⟩:=HV.out
   go_region_held3 (fun u=>(u.cell? ⟨w1.heap.size,0,none⟩=some (.int .i64 2)/\u.cell? ⟨w1.heap.size,1,none⟩=some (.string ⟨#[]⟩)/\u.cell? ⟨w1.heap.size,2,none⟩=some (.int .i64 0))/\(u.cell? ⟨w2.heap.size,0,none⟩=some (.int .i64 3)/\u.cell? ⟨w2.heap.size,1,none⟩=some (.string ⟨#[]⟩)/\u.cell? ⟨w2.heap.size,2,none⟩=some (.int .i64 0))/\(u.cell? ⟨w3.heap.size,0,none⟩=some (.int .i64 5)/\u.cell? ⟨w3.heap.size,1,none⟩=some (.string ⟨#[]⟩)/\u.cell? ⟨w3.heap.size,2,none⟩=some (.int .i64 0))/\(u.cell? ⟨w4.heap.size,0,none⟩=some (.int .i64 10)/\u.cell? ⟨w4.heap.size,1,none⟩=some (.string ⟨#[]⟩)/\u.cell? ⟨w4.heap.size,2,none⟩=some (.int .i64 0))/\(u.cell? ⟨w5.heap.size,0,none⟩=some (.int .i64 7)/\u.cell? ⟨w5.heap.size,1,none⟩=some (.string ⟨#[]⟩)/\u.cell? ⟨w5.heap.size,2,none⟩=some (.int .i64 0))) (go_keep) (first | (go_at_call 47;refine (c47 11 _).mono ?_;rintro e w6 ⟨rfl,hb6⟩;have HB6:Hid (Below W.heap.size W w6):=(Below.refl _ _).drew.trans hb6;obtain ⟨⟨p10',p11',p12'⟩,⟨p20',p21',p22'⟩,⟨p30',p31',p32'⟩,⟨p40',p41',p42'⟩,⟨p50',p51',p52'⟩,⟨pr',pf'⟩,z1',z2',z3',z4',z5',z6'⟩:=HV.out.later HB6.out))
   all_goals
    go_wp2;have er:=World.cell?_setCell_same w6 ⟨w.heap.size,0,none⟩ (.slice (some ⟨w6.heap.size,0,none⟩) 4 4) pr';have er1:=fun o=>past0 (by simpa using z6') er o;refine bodyPost_ret (v:=.agg #[.slice (some ⟨w6.heap.size,0,none⟩) 4 4]) (by simp [results,Tryz.results45,go_sem,er1]) rfl ⟨⟨[⟨2,⟨#[]⟩,0⟩,⟨7,⟨#[]⟩,0⟩,⟨3,⟨#[]⟩,0⟩,⟨11,⟨#[]⟩,0⟩],some ⟨w6.heap.size,0,none⟩,4,rfl,?_,dc_,small_lit rfl⟩,?_⟩
    · exact tool_lit [⟨2,⟨#[]⟩,0⟩,⟨7,⟨#[]⟩,0⟩,⟨3,⟨#[]⟩,0⟩,⟨11,⟨#[]⟩,0⟩] _ _ _ sm_ om_
    · exact ((bT HBW.out HB6.out).setCell sm_ _).alloc so_ _
 by_cases h6:k=6
 · subst h6
   go_wp2_with fail
   go_wp2;have er:=World.cell?_setCell_same w5 ⟨w.heap.size,0,none⟩ (.slice (some ⟨w5.heap.size+1,0,none⟩) 2 2) pr;have er2:=fun o o2=>past0 so_ (past0 (by simpa using z6) er o) o2;refine bodyPost_ret (v:=.agg #[.slice (some ⟨w5.heap.size+1,0,none⟩) 2 2]) (by simp [results,Tryz.results45,go_sem,er2]) rfl ⟨⟨[⟨2,⟨#[]⟩,0⟩,⟨9,⟨#[]⟩,0⟩],some ⟨w5.heap.size+1,0,none⟩,2,rfl,?_,dc_,small_lit rfl⟩,?_⟩
   · exact tool_lit [⟨2,⟨#[]⟩,0⟩,⟨9,⟨#[]⟩,0⟩] _ _ _ sm_ om_
   · exact ((HB5.out.setCell sm_ _).alloc so_ _).alloc so_ _
 by_cases h7:k=7
 · subst h7
   go_wp2_with fail
   change Code.wp _ _ _ _ (w5.alloc (lit1 7));clear p10 p11 p12 p20 p21 p22 p30 p31 p32 p40 p41 p42 pr pf z1 z2 z3 z4 z6;generalize (w5.alloc (lit1 7))=W at*;obtain ⟨⟨p10,p11,p12⟩,⟨p20,p21,p22⟩,⟨p30,p31,p32⟩,⟨p40,p41,p42⟩,⟨p50,p51,p52⟩,⟨pr,pf⟩,z1,z2,z3,z4,z5,z6⟩:=HV.out
   go_region_held3 (fun u=>(u.cell? ⟨w1.heap.size,0,none⟩=some (.int .i64 2)/\u.cell? ⟨w1.heap.size,1,none⟩=some (.string ⟨#[]⟩)/\u.cell? ⟨w1.heap.size,2,none⟩=some (.int .i64 0))/\(u.cell? ⟨w2.heap.size,0,none⟩=some (.int .i64 3)/\u.cell? ⟨w2.heap.size,1,none⟩=some (.string ⟨#[]⟩)/\u.cell? ⟨w2.heap.size,2,none⟩=some (.int .i64 0))/\(u.cell? ⟨w3.heap.size,0,none⟩=some (.int .i64 5)/\u.cell? ⟨w3.heap.size,1,none⟩=some (.string ⟨#[]⟩)/\u.cell? ⟨w3.heap.size,2,none⟩=some (.int .i64 0))/\(u.cell? ⟨w4.heap.size,0,none⟩=some (.int .i64 10)/\u.cell? ⟨w4.heap.size,1,none⟩=some (.string ⟨#[]⟩)/\u.cell? ⟨w4.heap.size,2,none⟩=some (.int .i64 0))/\(u.cell? ⟨w5.heap.size,0,none⟩=some (.int .i64 7)/\u.cell? ⟨w5.heap.size,1,none⟩=some (.string ⟨#[]⟩)/\u.cell? ⟨w5.heap.size,2,none⟩=some (.int .i64 0))) (go_keep) (first | (go_at_call 47;refine (c47 4 _).mono ?_;rintro e w6 ⟨rfl,hb6⟩;have HB6:Hid (Below W.heap.size W w6):=(Below.refl _ _).drew.trans hb6;obtain ⟨⟨p10',p11',p12'⟩,⟨p20',p21',p22'⟩,⟨p30',p31',p32'⟩,⟨p40',p41',p42'⟩,⟨p50',p51',p52'⟩,⟨pr',pf'⟩,z1',z2',z3',z4',z5',z6'⟩:=HV.out.later HB6.out))
   all_goals
    go_wp2;have er:=World.cell?_setCell_same w6 ⟨w.heap.size,0,none⟩ (.slice (some ⟨w6.heap.size,0,none⟩) 4 4) pr';have er1:=fun o=>past0 (by simpa using z6') er o;refine bodyPost_ret (v:=.agg #[.slice (some ⟨w6.heap.size,0,none⟩) 4 4]) (by simp [results,Tryz.results45,go_sem,er1]) rfl ⟨⟨[⟨2,⟨#[]⟩,0⟩,⟨7,⟨#[]⟩,0⟩,⟨4,⟨#[]⟩,0⟩,⟨9,⟨#[]⟩,0⟩],some ⟨w6.heap.size,0,none⟩,4,rfl,?_,dc_,small_lit rfl⟩,?_⟩
    · exact tool_lit [⟨2,⟨#[]⟩,0⟩,⟨7,⟨#[]⟩,0⟩,⟨4,⟨#[]⟩,0⟩,⟨9,⟨#[]⟩,0⟩] _ _ _ sm_ om_
    · exact ((bT HBW.out HB6.out).setCell sm_ _).alloc so_ _
 have e0:(k==0)=false:=so_;have e1:(k==1)=false:=so_;have e2:(k==2)=false:=so_;have e3:(k==3)=false:=so_;have e4:(k==4)=false:=so_;have e5:(k==5)=false:=so_;have e6:(k==6)=false:=so_;have e7:(k==7)=false:=so_
 go_wp2_with fail
 go_wp2;have er:=World.cell?_setCell_same w5 ⟨w.heap.size,0,none⟩ (.slice (some ⟨w5.heap.size+1,0,none⟩) 3 3) pr;have er2:=fun o o2=>past0 so_ (past0 (by simpa using z6) er o) o2;refine bodyPost_ret (v:=.agg #[.slice (some ⟨w5.heap.size+1,0,none⟩) 3 3]) (by simp [results,Tryz.results45,go_sem,er2]) rfl ⟨⟨[⟨2,⟨#[]⟩,0⟩,⟨5,⟨#[]⟩,0⟩,⟨10,⟨#[]⟩,0⟩],some ⟨w5.heap.size+1,0,none⟩,3,rfl,?_,dc_,small_lit rfl⟩,?_⟩
 · exact tool_lit [⟨2,⟨#[]⟩,0⟩,⟨5,⟨#[]⟩,0⟩,⟨10,⟨#[]⟩,0⟩] _ _ _ sm_ om_
 · exact ((HB5.out.setCell sm_ _).alloc so_ _).alloc so_ _
end Go.Proofs.YthjhakdpikdoeaaGreatDoor
