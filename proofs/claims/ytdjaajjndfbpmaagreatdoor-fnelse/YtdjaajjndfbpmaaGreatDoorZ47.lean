import Derived.Laws.Bits64
import Derived.Maps.OwnSet
import Derived.Maps.OwnRows
import Derived.Test.YtdjaajjndfbpmaaGreatDoorZ45
set_option linter.unusedVariables false
set_option maxRecDepth 100000
namespace Go.Proofs.YtdjaajjndfbpmaaGreatDoor
open Go.RowKit
theorem Cz (x y:Int) (hx:0≤x) (hx1:x<4294967296) (c:0≤y) (hy1:y<4294967296):0≤bits .xor .i64 x y∧bits .xor .i64 x y<4294967296:=by
  obtain ⟨a,rfl⟩:=A8 hx;obtain ⟨b,rfl⟩:=A8 c;have ha:a<4294967296:=O0;have hb:b<4294967296:=O0;have a4b:a ^^^ b<2 ^ 32:=Nat.xor_lt_two_pow O0 O0;have h1:(BitVec.ofInt 64 (a:Int)).toNat=a:=by
    rw [BitVec.ofInt_natCast,BitVec.toNat_ofNat];exact Nat.mod_eq_of_lt O0
  have h2:(BitVec.ofInt 64 (b:Int)).toNat=b:=by
    rw [BitVec.ofInt_natCast,BitVec.toNat_ofNat];exact Nat.mod_eq_of_lt O0
  have e:bits .xor .i64 (a:Int) (b:Int)=IntKind.i64.wrap ((BitVec.ofInt 64 (a:Int) ^^^ BitVec.ofInt 64 (b:Int)).toNat:Int):=rfl;rw [e,BitVec.toNat_xor,h1,h2,IntKind.wrap_i64];omega
theorem qB {x n:Int} (hn:1≤n):0≤x % n∧x % n<n:=⟨JA _ O0,dB _ O0⟩
set_option maxHeartbeats 1000000 in
theorem pJ (w:World) (q b c L cap p:Nat) (n:Int) (d:1≤n) (hn2:n≤1000000) (hp:p≤1000000)
    (c0:w.cell? ⟨q,0,none⟩=some (.slice (some ⟨b,c,none⟩) L cap)) (c1:w.cell? ⟨q,1,none⟩=some (.int .i64 p)) (fz:w.frozen? ⟨q,1,none⟩=false)
    (hl:L≤2000) (hlt:p<L) (a:Int) (hz1:0≤a∧a≤255) (hc1:w.cell? ⟨b,c+p,none⟩=some (.int .u8 a)) (hbq:b≠q):
    Calls Tryz.prog 34 #[.pointer (some ⟨q,0,none⟩),.int .i64 n] w fun e w'=>(∃ r:Int,e=.returned (.int .i64 r)∧0≤r∧r<n)∧∃ nq,w'=(w.setCell ⟨q,1,none⟩ (.int .i64 (p+1))).drewN nq:=by
  have hL0:¬ L=0:=O0;have hne:((L:Int)==0)=false:=by simp only [Gi];omega
  go_enter Tryz.func34,Tryz.ntmps34;go_wp2;go_ret;exact ⟨⟨_,rfl,qB d⟩,0,rfl⟩
set_option maxHeartbeats 1000000 in
theorem Cy (w:World) (q cap p:Nat) (a:Option Addr) (n:Int) (hn1:1≤n) (hn2:n≤1000000) (hp:p≤1000000)
    (c0:w.cell? ⟨q,0,none⟩=some (.slice a 0 cap)) (c1:w.cell? ⟨q,1,none⟩=some (.int .i64 p)) (fz:w.frozen? ⟨q,1,none⟩=false):
    Calls Tryz.prog 34 #[.pointer (some ⟨q,0,none⟩),.int .i64 n] w fun e w'=>(∃ r:Int,e=.returned (.int .i64 r)∧0≤r∧r<n)∧∃ nq,w'=(w.setCell ⟨q,1,none⟩ (.int .i64 (p+1))).drewN nq:=by
  go_enter Tryz.func34,Tryz.ntmps34;go_wp2;go_ret;exact ⟨⟨0,rfl,O0,O0⟩,0,rfl⟩
set_option maxHeartbeats 1000000 in
theorem EE (w:World) (q:Nat) (b d:Nat) (L:Nat) (cap:Nat) (p:Nat) (n:Int) (h:1≤n) (hn2:n≤1000000) (hp:p≤1000000)
    (c0:w.cell? ⟨q,0,none⟩=some (.slice (some ⟨b,d,none⟩) L cap)) (c1:w.cell? ⟨q,1,none⟩=some (.int .i64 p)) (fz:w.frozen? ⟨q,1,none⟩=false)
    (hl:L≤2000) (h0:0<L) (hlt:L≤p) (c a:Int) (hz1:0≤c∧c≤255) (hz2:0≤a∧a≤255)
    (j:w.cell? ⟨b,d+p % L,none⟩=some (.int .u8 c)) (i:w.cell? ⟨b,d+(p*7+3) % L,none⟩=some (.int .u8 a)) (hbq:b≠q):
    Calls Tryz.prog 34 #[.pointer (some ⟨q,0,none⟩),.int .i64 n] w fun e w'=>(∃ r:Int,e=.returned (.int .i64 r)∧0≤r∧r<n)∧∃ nq,w'=(w.setCell ⟨q,1,none⟩ (.int .i64 (p+1))).drewN nq:=by
  have hL0:¬ L=0:=O0;have hne:((L:Int)==0)=false:=by simp only [Gi];omega
  have m1:(0:Int)≤(p:Int) % (L:Int):=JA _ O0;have m2:(p:Int) % (L:Int)<(L:Int):=dB _ O0;have m3:(0:Int)≤((p:Int)*7+3) % (L:Int):=JA _ O0;have m4:((p:Int)*7+3) % (L:Int)<(L:Int):=dB _ O0;have d1:(0:Int)≤(p:Int) / (L:Int):=Int.ediv_nonneg O0 O0;have d2:(p:Int) / (L:Int)≤(p:Int):=Int.ediv_le_self _ O0;have hc1':w.cell? ⟨b,d+((p:Int) % (L:Int)).toNat,none⟩=some (.int .u8 c):=by
    have:((p:Int) % (L:Int)).toNat=p % L:=O0;rw [this];exact j
  have hc2':w.cell? ⟨b,d+(((p:Int)*7+3) % (L:Int)).toNat,none⟩=some (.int .u8 a):=by
    have:(((p:Int)*7+3) % (L:Int)).toNat=(p*7+3) % L:=by
      have e:((p:Int)*7+3) % (L:Int)=(((p*7+3) % L:Nat):Int):=X0;rw [e];rfl
    rw [this];exact i
  go_enter Tryz.func34,Tryz.ntmps34
  go_wp2_with fail
  refine wp_region_quiet_lit U2 U2 ?_
  repeat (any_goals (first | go_big_quiet_step (fail) | quiet_step (fail)))
  all_goals (refine wpQuiet_nil ?_;intro _ g;obtain ⟨nq,f⟩:=g;subst f)
  have hx:=Cz (c*131+a*1117+p*29+(p:Int) / L*53) ((c*131+a*1117+p*29+(p:Int) / L*53) / 64) O0 O0 O0 O0
  all_goals go_wp2
  go_ret;exact ⟨⟨_,rfl,qB h⟩,nq,rfl⟩
structure Eh (q:Nat) (w w':World):Prop where
  os:w'.os=w.os
  tape:w'.tape=w.tape
  output:w'.output=w.output
  size:w'.heap.size=w.heap.size
  block:∀ k,k≠q→w'.heap[k]?=w.heap[k]?
theorem Eh.cell {q:Nat} {w w':World} (h:Eh q w w') {p:Addr} (a:p.block≠q):w'.cell? p=w.cell? p:=Xz (w:=w) (h.block p.block a)
theorem Eh.below {q B:Nat} {w w':World} (h:Eh q w w') (hB:B≤q):Below B w w':=⟨h.os,h.tape,h.output,by rw [h.size];exact Q6 _,fun k hk=>h.block k O0⟩
theorem Kw (w:World) (q j:Nat) (v:Value) (nq:Nat):Eh q w ((w.setCell ⟨q,j,none⟩ v).drewN nq):=
  ⟨rfl,rfl,rfl,X0,fun k a=>Xq w ⟨q,j,none⟩ v k a⟩
def zk (w:World) (q p:Nat):Prop:=
  ∃ (a:Option Addr) (L cap:Nat),w.cell? ⟨q,0,none⟩=some (.slice a L cap)∧w.cell? ⟨q,1,none⟩=some (.int .i64 p)∧w.frozen? ⟨q,1,none⟩=false∧L≤2000∧
    (L=0∨∃ b off,a=some ⟨b,off,none⟩∧b<q∧∀ i,i<L→∃ z:Int,(0≤z∧z≤255)∧w.cell? ⟨b,off+i,none⟩=some (.int .u8 z))
theorem Ck {w:World} {a:Addr} {v:Value} (h:w.cell? a=some v):a.block<w.heap.size:=by
  rcases U5 a.block w.heap.size with b | b
  · exact b
  · simp [World.cell?,Yj b] at h
theorem zk.lt {w:World} {q p:Nat} (h:zk w q p):q<w.heap.size:=by
  obtain ⟨a,L,cap,b,_⟩:=h;exact Ck b
theorem zk.later {w w':World} {q p B:Nat} (h:zk w q p) (d:Below B w w') (c:q<B):zk w' q p:=by
  obtain ⟨a,L,cap,s,r,fz,k,j⟩:=h;refine ⟨a,L,cap,by rw [d.cell (by exact c)];exact s,by rw [d.cell (by exact c)];exact r,by rw [d.frozen (by exact c)];exact fz,k,?_⟩;rcases j with h0 | ⟨b,f,o,e,n⟩
  · exact .inl h0
  · refine .inr ⟨b,f,o,e,fun i l=>?_⟩
    obtain ⟨z,g,m⟩:=n i l;exact ⟨z,g,by rw [d.cell (by exact jw e c)];exact m⟩
theorem zk.step {w:World} {q p:Nat} (h:zk w q p) (nq:Nat):zk ((w.setCell ⟨q,1,none⟩ (.int .i64 ((p:Int)+1))).drewN nq) q (p+1):=by
  obtain ⟨a,L,cap,o,n,fz,f,e⟩:=h;refine ⟨a,L,cap,?_,?_,?_,f,?_⟩
  · show (w.setCell _ _).cell? _=_
    rw [← o];exact O_ _ _ _ _ X0
  · show (w.setCell _ _).cell? _=_
    rw [O7 _ _ _ n];simp
  · show (w.setCell _ _).frozen? _=_
    rw [← fz];simp
  · rcases e with h0 | ⟨b,c,m,l,k⟩
    · exact .inl h0
    · refine .inr ⟨b,c,m,l,fun i g=>?_⟩
      obtain ⟨z,d,j⟩:=k i g;refine ⟨z,d,?_⟩;show (w.setCell _ _).cell? _=_;rw [← j];exact O_ _ _ _ _ (by intro h;injection h with h1 _;omega)
theorem pick (w:World) (q p:Nat) (n:Int) (f:1≤n) (d:n≤1000000) (c:p≤1000000) (l:zk w q p):
    Calls Tryz.prog 34 #[.pointer (some ⟨q,0,none⟩),.int .i64 n] w fun e w'=>(∃ r:Int,e=.returned (.int .i64 r)∧0≤r∧r<n)∧zk w' q (p+1)∧Eh q w w':=by
  have h:Calls Tryz.prog 34 #[.pointer (some ⟨q,0,none⟩),.int .i64 n] w fun e w'=>(∃ r:Int,e=.returned (.int .i64 r)∧0≤r∧r<n)∧∃ nq,w'=(w.setCell ⟨q,1,none⟩ (.int .i64 (p+1))).drewN nq:=by
    obtain ⟨a,L,cap,i,g,fz,o,y⟩:=l;rcases y with h0 | ⟨b,k,rfl,hbq,j⟩
    · subst h0
      exact Cy w q cap p a n f d c i g fz
    · rcases U5 p L with m | A
      · obtain ⟨z,x,B⟩:=j p m
        exact pJ w q b k L cap p n f d c i g fz o m z x B O0
      · rcases Xg L with h0 | h0
        · subst h0
          exact Cy w q cap p _ n f d c i g fz
        · obtain ⟨t,v,D⟩:=j (p % L) (Gv _ h0)
          obtain ⟨s,u,C⟩:=j ((p*7+3) % L) (Gv _ h0);exact EE w q b k L cap p n f d c i g fz o h0 A t s v u D C O0
  refine h.mono ?_;rintro e w' ⟨h1,nq,rfl⟩;exact ⟨h1,l.step nq,Kw _ _ _ _ _⟩
def BytesAt (w:World) (a:Option Addr) (L:Nat):Prop:=
  L=0∨∃ b off,a=some ⟨b,off,none⟩∧∀ i,i<L→∃ z:Int,(0≤z∧z≤255)∧w.cell? ⟨b,off+i,none⟩=some (.int .u8 z)
theorem bC {w:World} {a:Option Addr} {L cap:Nat} (h:BytesAt w a L) (l:L≤2000):zk (w.alloc (.cells #[.slice a L cap,.int .i64 0] 120)) w.heap.size 0:=by
  refine ⟨a,L,cap,X0,X0,X0,l,?_⟩;rcases h with h | ⟨b,f,k,d⟩
  · exact .inl h
  · rcases Xg L with h0 | h0
    · exact .inl h0
    · have e:b<w.heap.size:=by
        obtain ⟨z,_,c⟩:=d 0 h0;exact Ck c
      refine .inr ⟨b,f,k,e,fun i g=>?_⟩;obtain ⟨z,c,j⟩:=d i g;exact ⟨z,c,by rw [((F4 w.heap.size w).alloc P9 _).cell (by exact e)];exact j⟩
set_option maxHeartbeats 400000 in
theorem c31 (a:Option Addr) (L cap:Nat) (w:World) (hL:L≤1048576) (hcap:L≤cap) (h:BytesAt w a L):
    Calls Tryz.prog 31 #[.slice a L cap] w fun e w'=>e=.returned (.pointer (some ⟨w.heap.size,0,none⟩))∧zk w' w.heap.size 0∧Below w.heap.size w w'∧w'.heap.size=w.heap.size+1:=by
  by_cases h2:2000<L
  · have d:Hid (zk (w.alloc (.cells #[.slice a 2000 cap,.int .i64 0] 120)) w.heap.size 0):=by
      refine bC ?_ P9;rcases h with h | ⟨b,f,g,c⟩
      · omega
      · exact .inr ⟨b,f,g,fun i hi=>c i O0⟩
    rcases h with h | ⟨b,f,rfl,c⟩
    · omega
    clear c;go_enter Tryz.func31,Tryz.ntmps31;go_wp2;go_ret;exact ⟨rfl,d.out,bA,X0⟩
  · have d:Hid (zk (w.alloc (.cells #[.slice a L cap,.int .i64 0] 120)) w.heap.size 0):=bC h O0
    clear h;go_enter Tryz.func31,Tryz.ntmps31;go_wp2;go_ret;exact ⟨rfl,d.out,bA,X0⟩
def D6 (w:World) (q P:Nat):Prop:=∃ p,p≤P∧zk w q p
theorem D6.lt {w:World} {q P:Nat} (h:D6 w q P):q<w.heap.size:=by obtain ⟨p,_,h⟩:=h;exact h.lt
theorem D6.mono {w:World} {q P P':Nat} (h:D6 w q P) (hp:P≤P'):D6 w q P':=by obtain ⟨p,h1,h2⟩:=h;exact ⟨p,O0,h2⟩
theorem D6.later {w w':World} {q P:Nat} (h:D6 w q P) (a:Below w.heap.size w w'):D6 w' q P:=by obtain ⟨p,h1,h2⟩:=h;exact ⟨p,h1,h2.later a h2.lt⟩
theorem Eh.but {q:Nat} {w w':World} (h:Eh q w w'):But q w w':=⟨h.os,h.tape,h.output,by rw [h.size];exact Q6 _,fun k _ a=>h.block k a⟩
theorem But.later {q:Nat} {w w' u:World} (h:But q w w') (a:Below w'.heap.size w' u):But q w u:=h.trans (But.of_below a)
theorem X5 (w:World) (q P:Nat) (n:Int) (c:1≤n) (b:n≤1000000) (hp:P≤1000000) (a:D6 w q P):
    Calls Tryz.prog 34 #[.pointer (some ⟨q,0,none⟩),.int .i64 n] w fun e w'=>(∃ r:Int,e=.returned (.int .i64 r)∧0≤r∧r<n)∧D6 w' q (P+1)∧Eh q w w':=by
  obtain ⟨p,h1,h2⟩:=a;refine (pick w q p n c b O0 h2).mono ?_;rintro e w' ⟨g,f,d⟩;exact ⟨g,⟨p+1,O0,f⟩,d⟩
set_option maxHeartbeats 400000 in
theorem c40 (s:ByteArray) (n:Nat) (w:World) (k:s.size≤4) (i:n≤1000):
    Calls Tryz.prog 40 #[.string s,.int .i64 n] w fun e w'=>(∃ x:ByteArray,e=.returned (.string x)∧x.size≤4000)∧w'=w:=by
  have h0:(⟨#[]⟩:ByteArray).size+s.size*n≤4000:=by
    have:=UA k i;have e:(⟨#[]⟩:ByteArray).size=0:=rfl;omega
  go_enter Tryz.func40,Tryz.ntmps40
  go_wp2_with fail
  go_loop [0,1,5] (fun a b c=>∃ (t:ByteArray) (m:Nat) (o:ByteArray),a=.string t∧b=.int .i64 m∧c=.string o∧Hid (o.size+t.size*m≤4000)∧m≤1000∧o.size≤4000∧t.size≤8000) (fun _ b _=>(intOf b).toNat)
  case atStart=>exact ⟨s,n,⟨#[]⟩,rfl,rfl,rfl,h0,i,K3,O0⟩
  case round=>
    obtain ⟨t,m,o,rfl,rfl,rfl,g,hm,ho,ht⟩:=hrel;by_cases j:m=0
    · subst j
      go_wp2;go_ret;exact ⟨⟨o,rfl,ho⟩,rfl⟩
    · have hpos:(0:Int)<(m:Int):=O0
      have ht4:t.size≤4000:=by
        have:=Nat.le_mul_of_pos_right t.size (show 0<m by omega);have:=g.out;omega
      have a4c:t.size+t.size≤8000:=O0;rcases KE m with h2 | h2
      · have l:(m:Int) % 2=0:=O0
        have d:Hid (o.size+(t++t).size*(m / 2)≤4000):=by
          have e:(t++t).size*(m / 2)=t.size*m:=by
            rw [K9];obtain ⟨c,rfl⟩:∃ c,m=2*c:=⟨m / 2,O0⟩;rw [Nat.mul_div_cancel_left _ O0,← Nat.two_mul,Nat.mul_comm 2 t.size,Nat.mul_assoc]
          show _≤_;rw [e];exact g.out
        go_wp2
        go_round
        case rel=>exact ⟨t++t,m / 2,o,rfl,by go_num,rfl,d,O0,ho,by rw [K9];omega⟩
        case measure=>simp [intOf];omega
      · have l:(m:Int) % 2=1:=O0
        have d:Hid ((o++t).size+(t++t).size*(m / 2)≤4000):=by
          have e:(o++t).size+(t++t).size*(m / 2)=o.size+t.size*m:=by
            rw [K9,K9];obtain ⟨c,rfl⟩:∃ c,m=2*c+1:=⟨m / 2,O0⟩;rw [show (2*c+1) / 2=c by omega,← Nat.two_mul,Nat.mul_add,Nat.mul_one,← Nat.mul_assoc,Nat.mul_comm t.size 2];omega
          show _≤_;rw [e];exact g.out
        have f:(o++t).size≤4000:=by have h:=d.out;have:=I5 ((t++t).size*(m / 2));omega
        have a4d:o.size+t.size≤4000:=by rw [K9] at f;exact f
        go_wp2
        go_round
        case rel=>exact ⟨t++t,m / 2,o++t,rfl,by go_num,rfl,d,O0,f,by rw [K9];omega⟩
        case measure=>simp [intOf];omega
set_option maxHeartbeats 400000 in
theorem lD (op:Int) (w:World):
    Calls Tryz.prog 96 #[.int .i64 op] w fun e w'=>e=.returned (.agg #[.int .i64 op,.string ⟨#[]⟩,.int .i64 0])∧Below w.heap.size w w':=by
  go_enter Tryz.func96,Tryz.ntmps96;go_wp2;refine K4 (v:=.agg #[.int .i64 op,.string ⟨#[]⟩,.int .i64 0]) (by simp [results,Tryz.results96,go_sem]) rfl ⟨rfl,?_⟩;exact bA
set_option maxHeartbeats 400000 in
theorem uP (op:Int) (s:ByteArray) (w:World):
    Calls Tryz.prog 137 #[.int .i64 op,.string s] w fun e w'=>e=.returned (.agg #[.int .i64 op,.string s,.int .i64 0])∧Below w.heap.size w w':=by
  go_enter Tryz.func137,Tryz.ntmps137;go_wp2;refine K4 (v:=.agg #[.int .i64 op,.string s,.int .i64 0]) (by simp [results,Tryz.results137,go_sem]) rfl ⟨rfl,?_⟩;exact bA
set_option maxHeartbeats 1000000 in
set_option maxRecDepth 100000 in
theorem qK (q P:Nat) (w:World) (hp:P≤100000) (u:D6 w q P):
    Calls Tryz.prog 68 #[.pointer (some ⟨q,0,none⟩)] w fun e w'=>(∃ x:ByteArray,e=.returned (.string x)∧x.size≤20)∧D6 w' q (P+2)∧But q w w':=by
  have v:Hid (D6 w q P):=u;clear u;go_enter Tryz.func68,Tryz.ntmps68
  go_wp2_with fail
  refine (X5 w q P 13 O0 O0 O0 v.out).mono ?_;rintro e w1 ⟨⟨r,rfl,h0,g⟩,h1,ho⟩;have f:Hid (D6 w1 q (P+1)):=h1;have i:Hid (But q w w1):=ho.but;clear h1 ho;obtain rfl | rfl | rfl | rfl | rfl | rfl | rfl | rfl | rfl | rfl | rfl | rfl | rfl:r=0∨r=1∨r=2∨r=3∨r=4∨r=5∨r=6∨r=7∨r=8∨r=9∨r=10∨r=11∨r=12:=O0
  · clear h0 g
    go_wp2;go_ret;exact ⟨⟨_,rfl,K3⟩,f.out.mono O0,i.out⟩
  · clear h0 g
    go_wp2;go_ret;exact ⟨⟨_,rfl,K3⟩,f.out.mono O0,i.out⟩
  · clear h0 g
    go_wp2_with fail
    refine (X5 w1 q (P+1) 5 O0 O0 O0 f.out).mono ?_;rintro e a ⟨⟨l,rfl,k,n⟩,h2,b⟩;have j:Hid (D6 a q (P+1+1)):=h2;have h:Hid (But q w a):=i.out.trans b.but;clear h2 b;obtain ⟨m,rfl⟩:=A8 k;have c:m<100:=O0;have p:(Q3 (Lib.decDigits m)).size≤2:=by rw [J3];exact Sa m c
    go_wp2_with fail
    refine (Rs m a c).mono ?_;rintro e o ⟨rfl,d⟩;go_wp2;go_ret;exact ⟨⟨_,rfl,by rw [K9];have s:ByteArray.size ⟨#[120]⟩=1:=rfl;omega⟩,j.out.later d,h.out.later d⟩
  · clear h0 g
    have t:Below w1.heap.size w1 (w1.alloc (.cells #[.string ⟨#[97]⟩,.string ⟨#[98]⟩,.string ⟨#[103,111,110,101]⟩] 9)):=bA;have hq1:q<w1.heap.size:=f.out.lt
    go_wp2_with fail
    refine (X5 (w1.alloc (.cells #[.string ⟨#[97]⟩,.string ⟨#[98]⟩,.string ⟨#[103,111,110,101]⟩] 9)) q (P+1) 3 O0 O0 O0 (f.out.later t)).mono ?_;rintro e a ⟨⟨l,rfl,k,n⟩,h2,b⟩;have j:Hid (D6 a q (P+1+1)):=h2;have h:Hid (But q w a):=(i.out.later t).trans b.but;have d0:a.cell? ⟨w1.heap.size,0,none⟩=some (.string ⟨#[97]⟩):=by rw [b.cell J4];simp
    have d1:a.cell? ⟨w1.heap.size,1,none⟩=some (.string ⟨#[98]⟩):=by rw [b.cell J4];simp
    have d2:a.cell? ⟨w1.heap.size,2,none⟩=some (.string ⟨#[103,111,110,101]⟩):=by rw [b.cell J4];simp
    clear h2 b t;obtain rfl | rfl | rfl:l=0∨l=1∨l=2:=O0
    all_goals
      go_wp2;go_ret;exact ⟨⟨_,rfl,K3⟩,j.out,h.out⟩
  · clear h0 g
    go_wp2;go_ret;exact ⟨⟨_,rfl,K3⟩,f.out.mono O0,i.out⟩
  · clear h0 g
    go_wp2_with fail
    refine (X5 w1 q (P+1) 9 O0 O0 O0 f.out).mono ?_;rintro e a ⟨⟨l,rfl,k,n⟩,h2,b⟩;have j:Hid (D6 a q (P+1+1)):=h2;have h:Hid (But q w a):=i.out.trans b.but;clear h2 b;obtain ⟨m,rfl⟩:=A8 k;have c:m<100:=O0;have p:(Q3 (Lib.decDigits m)).size≤2:=by rw [J3];exact Sa m c
    go_wp2_with fail
    refine (Rs m a c).mono ?_;rintro e o ⟨rfl,d⟩;go_wp2;go_ret;exact ⟨⟨_,rfl,by rw [K9];have s:ByteArray.size ⟨#[118]⟩=1:=rfl;omega⟩,j.out.later d,h.out.later d⟩
  · clear h0 g
    go_wp2_with fail
    refine (X5 w1 q (P+1) 9 O0 O0 O0 f.out).mono ?_;rintro e a ⟨⟨l,rfl,k,n⟩,h2,b⟩;have j:Hid (D6 a q (P+1+1)):=h2;have h:Hid (But q w a):=i.out.trans b.but;clear h2 b;obtain ⟨m,rfl⟩:=A8 k;have c:m<100:=O0;have p:(Q3 (Lib.decDigits m)).size≤2:=by rw [J3];exact Sa m c
    go_wp2_with fail
    refine (Rs m a c).mono ?_;rintro e o ⟨rfl,d⟩;go_wp2;go_ret;exact ⟨⟨_,rfl,by rw [K9];have s:ByteArray.size ⟨#[118]⟩=1:=rfl;omega⟩,j.out.later d,h.out.later d⟩
  · clear h0 g
    go_wp2_with fail
    refine (X5 w1 q (P+1) 9 O0 O0 O0 f.out).mono ?_;rintro e a ⟨⟨l,rfl,k,n⟩,h2,b⟩;have j:Hid (D6 a q (P+1+1)):=h2;have h:Hid (But q w a):=i.out.trans b.but;clear h2 b;obtain ⟨m,rfl⟩:=A8 k;have c:m<100:=O0;have p:(Q3 (Lib.decDigits m)).size≤2:=by rw [J3];exact Sa m c
    go_wp2_with fail
    refine (Rs m a c).mono ?_;rintro e o ⟨rfl,d⟩;go_wp2;go_ret;exact ⟨⟨_,rfl,by rw [K9];have s:ByteArray.size ⟨#[118]⟩=1:=rfl;omega⟩,j.out.later d,h.out.later d⟩
  · clear h0 g
    go_wp2_with fail
    refine (X5 w1 q (P+1) 9 O0 O0 O0 f.out).mono ?_;rintro e a ⟨⟨l,rfl,k,n⟩,h2,b⟩;have j:Hid (D6 a q (P+1+1)):=h2;have h:Hid (But q w a):=i.out.trans b.but;clear h2 b;obtain ⟨m,rfl⟩:=A8 k;have c:m<100:=O0;have p:(Q3 (Lib.decDigits m)).size≤2:=by rw [J3];exact Sa m c
    go_wp2_with fail
    refine (Rs m a c).mono ?_;rintro e o ⟨rfl,d⟩;go_wp2;go_ret;exact ⟨⟨_,rfl,by rw [K9];have s:ByteArray.size ⟨#[118]⟩=1:=rfl;omega⟩,j.out.later d,h.out.later d⟩
  · clear h0 g
    go_wp2;go_ret;exact ⟨⟨_,rfl,K3⟩,f.out.mono O0,i.out⟩
  · clear h0 g
    go_wp2;go_ret;exact ⟨⟨_,rfl,K3⟩,f.out.mono O0,i.out⟩
  · clear h0 g
    go_wp2;go_ret;exact ⟨⟨_,rfl,K3⟩,f.out.mono O0,i.out⟩
  · clear h0 g
    go_wp2_with fail
    refine (X5 w1 q (P+1) 9 O0 O0 O0 f.out).mono ?_;rintro e a ⟨⟨l,rfl,k,n⟩,h2,b⟩;have j:Hid (D6 a q (P+1+1)):=h2;have h:Hid (But q w a):=i.out.trans b.but;clear h2 b;obtain ⟨m,rfl⟩:=A8 k;have c:m<100:=O0;have p:(Q3 (Lib.decDigits m)).size≤2:=by rw [J3];exact Sa m c
    go_wp2_with fail
    refine (Rs m a c).mono ?_;rintro e o ⟨rfl,d⟩;go_wp2;go_ret;exact ⟨⟨_,rfl,by rw [K9];have s:ByteArray.size ⟨#[118]⟩=1:=rfl;omega⟩,j.out.later d,h.out.later d⟩
open Proofs.Tryz
open Go.RowKit Go.Maps
open M (Lc)
def X9 (v:Value):Option (DataW Value×List MemPlace):=some (.held v,[])
def kS (s:ByteArray):Lit:=.string s.data.toList
def eS (p:ByteArray×Value):Lit×DataW Value:=(kS p.1,.held p.2)
def mapD (l:List (ByteArray×Value)):DataW Value:=.map (l.map eS)
def CJ (a b:ByteArray):Bool:=bytesBefore a.data.toList b.data.toList
def Ei (x:ByteArray×Value):List (ByteArray×Value)->List (ByteArray×Value)
 | []=>[x]
 | y::r=>if CJ x.1 y.1 then x::y::r else y::Ei x r
def Asc (l:List (ByteArray×Value)):Prop:=l.Pairwise fun p q=>CJ p.1 q.1=true
def G_ (l:List (ByteArray×Value)) (k:ByteArray):Option Value:=(l.find? fun p=>decide (p.1=k)).map (·.2)
theorem UB {a b:ByteArray} (h:a.data.toList=b.data.toList):a=b:=by
 apply Hd;exact ag.1 h
theorem Jv (a b:ByteArray):(kS a).sameKey (kS b)=decide (a=b):=by
 show (a.data.toList==b.data.toList)=decide (a=b);by_cases h:a=b
 · simp [h]
 rw [Oh h];exact Gi.2 (fun e=>h (UB e))
theorem EB (l:List (ByteArray×Value)) (k:ByteArray) (z:DataW Value):(mapD l).atKey (kS k) z=match G_ l k with | some v=>.held v | none=>z:=by
 unfold mapD DataW.atKey G_;simp only [List.find?_map];have e:((fun p:Lit×DataW Value=>p.1.sameKey (kS k))∘eS)=fun p=>decide (p.1=k):=funext fun p=>Jv p.1 k;rw [e];cases List.find? (fun p:ByteArray×Value=>decide (p.1=k)) l <;> rfl
theorem wF (l:List (ByteArray×Value)) (k:ByteArray):has (mapD l) (kS k)=(G_ l k).isSome:=by
 show (l.map eS).any (fun p=>p.1.sameKey (kS k))=_;rw [List.any_map];have e:((fun p:Lit×DataW Value=>p.1.sameKey (kS k))∘eS)=fun p=>decide (p.1=k):=funext fun p=>Jv p.1 k;rw [e];unfold G_;rw [Option.isSome_map,Bool.eq_iff_iff];simp
theorem rD (l:List (ByteArray×Value)):size (mapD l)=l.length:=by
 show (l.map eS).length=_;simp
theorem qJ (x:ByteArray×Value) (l:List (ByteArray×Value)):(Ei x l).map eS=DataW.insert (eS x) (l.map eS):=by
 induction l with
 | nil=>rfl
 | cons y r ih=>
  unfold Ei;show _=if (kS x.1).before (kS y.1)=true then _ else _;show List.map eS (if bytesBefore x.1.data.toList y.1.data.toList=true then _ else _)=if bytesBefore x.1.data.toList y.1.data.toList=true then _ else _;split
  · rfl
  simp [ih]
theorem Lt {l:List (ByteArray×Value)} {k:ByteArray}:G_ l k=none↔∀ p∈l,p.1≠k:=by
 unfold G_;simp
theorem Ct (x:ByteArray×Value) (l:List (ByteArray×Value)):(Ei x l).Perm (x::l):=by
 induction l with
 | nil=>exact List.Perm.refl _
 | cons y r ih=>
  unfold Ei;split
  · exact List.Perm.refl _
  exact (ih.cons y).trans (List.Perm.swap x y r)
theorem wC (a:ByteArray):CJ a a=false:=WideAt.bytes_irrefl _
theorem xK {a b c:ByteArray} (h:CJ a b=true) (d:CJ b c=true):CJ a c=true:=WideShapes.bytes_trans _ _ _ h d
theorem WH {a b:ByteArray} (h:a≠b):CJ a b=true\/CJ b a=true:=WideAt.bytes_total _ _ (fun e=>h (UB e))
theorem iG {x:ByteArray×Value} {l:List (ByteArray×Value)} (h:Asc l) (hx:∀ p∈l,p.1≠x.1):Asc (Ei x l):=by
 induction l with
 | nil=>exact jr _ _
 | cons y r ih=>
  have c:=uo.1 h;unfold Ei;split
  · rename_i b
    exact uo.2 ⟨fun p a=>by
     rcases D_.1 a with rfl | a
     · exact b
     exact xK b (c.1 p a),h⟩
  rename_i b;have d:=(WH (hx y (Uh ..))).elim id (fun e=>absurd e b);refine uo.2 ⟨fun p a=>?_,ih c.2 (fun p a=>hx p (Fg _ a))⟩;rcases D_.1 ((Ct x r).mem_iff.1 a) with rfl | a
  · exact d
  exact c.1 p a
theorem BF {l:List (ByteArray×Value)} {k:ByteArray} {v:Value} (h:G_ l k=some v):(k,v)∈l:=by
 unfold G_ at h;obtain ⟨p,a,rfl⟩:=Uo.1 h;have h1:=YA a;have h2:=Tz a;simp at h2;rw [<- h2];exact h1
theorem Tq {l:List (ByteArray×Value)} (h:Asc l) {k:ByteArray} {v:Value} (a:(k,v)∈l):G_ l k=some v:=by
 induction l with
 | nil=>cases a
 | cons y r ih=>
  have c:=uo.1 h;rcases D_.1 a with rfl | a
  · simp [G_]
  have d:y.1≠k:=fun e=>by
   have:=c.1 _ a;rw [e] at this;simp only [wC] at this;cases this
  have b:=ih c.2 a;unfold G_ at b ⊢;rw [List.find?_cons_of_neg (by simpa using d)];exact b
theorem WK:Keyed prog 9:=string_keyed underlying9
theorem YK {k:ByteArray} (h:k.size<=maxLen):keyOf prog 9 (.string k)=some (kS k):=Go.WideMaps.keyOf_string_mk underlying9 h
theorem tH {w:World} {k:TypeId} {R:Value->Option (DataW Value×List MemPlace)} {b n:Nat} {D:DataW Value} (h:w.ownsMap prog k R b n D):w.ownsMap prog k R b (size D) D:=by
 obtain ⟨es,d,c,F,hs,a⟩:=h;refine ⟨es,d,c,F,?_,a⟩;rw [a,size_eq,length_sorted];simp
theorem M6 {w w':World} {k:TypeId} {R:Value->Option (DataW Value×List MemPlace)} {b n N:Nat} {D:DataW Value} (h:w.ownsMap prog k R b n D) (c:Below N w w') (d:b<N):w'.ownsMap prog k R b n D:=by
 obtain ⟨es,e,a,r⟩:=h;exact ⟨es,e,(c.block b d).trans a,r⟩
theorem Eg {w:World} {k:TypeId} {R:Value->Option (DataW Value×List MemPlace)} {b n:Nat} {D:DataW Value} (h:w.ownsMap prog k R b n D):∃ es a,w.heap[b]?=some (.map es a):=by
 obtain ⟨es,a,c,r⟩:=h;exact ⟨es,a,c⟩
theorem LB {v:Value} {d:DataW Value} {ps:List MemPlace} (h:X9 v=some (d,ps)):d=.held v:=by
 unfold X9 at h;simp only [Qv,Prod.mk.injEq] at h;exact h.1.symm
theorem nD {w:World} {b n:Nat} {l:List (ByteArray×Value)} {t e:TypeId} {z:Value} {k:ByteArray} (h:w.ownsMap prog 9 X9 b n (mapD l)) (f:prog.underlying t=some (.map 9 e)) (d:(zeroValue e).run prog w=.ok z w) (g:k.size<=maxLen):
 (Instr.lookup t (.map (some b)) (.string k) true).run prog w=.ok (.tuple #[(G_ l k).getD z,.bool (G_ l k).isSome]) w:=by
 obtain ⟨v,ps,c,hv⟩:=h.look_ok WK f d (zd:=.held z) (zp:=[]) rfl (YK g);have a:=LB hv;rw [EB] at a;rw [wF] at c;rw [c]
 cases hg:G_ l k with
 | none=>rw [hg] at a;simp at a;rw [a];rfl
 | some u=>rw [hg] at a;simp at a;rw [a];rfl
theorem BK {w:World} {b n:Nat} {l:List (ByteArray×Value)} {t e:TypeId} {z:Value} {k:ByteArray} (h:w.ownsMap prog 9 X9 b n (mapD l)) (d:prog.underlying t=some (.map 9 e)) (c:(zeroValue e).run prog w=.ok z w) (g:k.size<=maxLen):
 (Instr.lookup t (.map (some b)) (.string k) false).run prog w=.ok ((G_ l k).getD z) w:=by
 obtain ⟨v,ps,f,hv⟩:=h.lookup WK d c (zd:=.held z) (zp:=[]) rfl (YK g);have a:=LB hv;rw [EB] at a;rw [f]
 cases hg:G_ l k with
 | none=>rw [hg] at a;simp at a;rw [a];rfl
 | some u=>rw [hg] at a;simp at a;rw [a];rfl
theorem yO {w:World} {b n:Nat} {l:List (ByteArray×Value)} {t e:TypeId} {v:Value} {k:ByteArray} (h:w.ownsMap prog 9 X9 b n (mapD l)) (a:prog.underlying t=some (.map 9 e)) (c:n<maxLen) (f:k.size<=maxLen):
 ∃ w',(Instr.mapUpdate t (.map (some b)) (.string k) v).run prog w=.ok () w'/\w'.ownsMap prog 9 X9 b (n+1) ((mapD l).put (kS k) (.held v))/\w.grownBy w' (some b):=
 h.update WK a c (YK f) (d:=.held v) (ps:=[]) rfl
theorem Yw {ops:Array Oper} {o:Oper} {a:Act} {w:World} {K:Act->World->Prop} {Q:Exit->Act->World->Prop} {E:Prop} (p:o.guard=none) (t:TypeId) (m x v:Operand) (ho:o.op=Op.mapUpdate t m x v) {b n:Nat} {l:List (ByteArray×Value)} {k:ByteArray} {e:TypeId} {vv:Value}
 (i:a.eval m=.map (some b)) (hx:a.eval x=.string k) (hv:a.eval v=vv) (h:w.ownsMap prog 9 X9 b n (mapD l)) (d:prog.underlying t=some (.map 9 e)) (g:n<maxLen) (j:k.size<=maxLen) (c:o.dst=none)
 (q:∀ w',w'.ownsMap prog 9 X9 b (n+1) ((mapD l).put (kS k) (.held vv))->w.grownBy w' (some b)->K a w'):
 if Region.wanted o (yielded ops a.tmps)=true then Oper.wp prog o a w K Q else E:=by
 have hw:Region.wanted o (yielded ops a.tmps)=true:=by simp [Region.wanted,p]
 rw [Y3 hw];obtain ⟨w',f,h1,h2⟩:=yO (v:=vv) h d g j;have h3:=q w' h1 h2;unfold Oper.wp;simp [execOp,ho,i,hx,hv,f,Result.andThen]
 first
  | exact h3
  | (simp only [Oper.upon];exact h3)
  | (simp only [Oper.upon,c];exact h3)
  | (simp only [Act.put,c];exact h3)
def YO (w:World) (b:Nat) (t:TypeId):Prop:=∃ cur fr,w.heap[b]?=some (.cells cur t fr)
theorem YO.below {w w':World} {b N:Nat} {t:TypeId} (h:YO w b t) (a:Below N w w') (c:b<N):YO w' b t:=by
 obtain ⟨cur,fr,h⟩:=h;exact ⟨cur,fr,(a.block b c).trans h⟩
theorem ah {w:World} {H b:Nat} {v:Value} (h:w.cell? ⟨H,0,none⟩=some v) {es:Array MapEntry} {c:Nat} (a:w.heap[b]?=some (.map es c)):H≠b:=fun e=>by
 subst e;simp [World.cell?,a] at h
theorem Uw {l:List (ByteArray×Value)} (g:Asc l) (k:ByteArray) (v:Value):Asc (Ei (k,v) (l.filter fun p=>!decide (p.1=k)))/\∀ a,G_ (Ei (k,v) (l.filter fun p=>!decide (p.1=k))) a=if a=k then some v else G_ l a:=by
 have f:Asc (l.filter fun p=>!decide (p.1=k)):=g.filter _;have d:Asc (Ei (k,v) (l.filter fun p=>!decide (p.1=k))):=iG f (fun p b=>by have:=(xm.1 b).2;simpa using this);refine ⟨d,fun a=>?_⟩;have c:∀ p,p∈Ei (k,v) (l.filter fun p=>!decide (p.1=k))↔p=(k,v)\/(p∈l/\p.1≠k):=fun p=>by
  rw [(Ct _ _).mem_iff,D_,xm];simp
 by_cases h:a=k
 · subst h
   rw [Y3 rfl];exact Tq d ((c _).2 (.inl rfl))
 rw [R3 h]
 cases hq:G_ l a with
 | none=>
  exact Lt.2 (fun p b=>by
   rcases (c p).1 b with rfl | ⟨b,_⟩
   · exact fun e=>h e.symm
   exact Lt.1 hq p b)
 | some u=>exact Tq d ((c _).2 (.inr ⟨BF hq,h⟩))
theorem jD (l:List (ByteArray×Value)) (k:ByteArray) (v:Value):(mapD l).put (kS k) (.held v)=mapD (Ei (k,v) (l.filter fun p=>!decide (p.1=k))):=by
 show DataW.map (DataW.insert (eS (k,v)) ((l.map eS).filter fun p=>!p.1.sameKey (kS k)))=DataW.map ((Ei (k,v) _).map eS);rw [qJ,List.filter_map]
 congr 2
 congr 1
 apply List.filter_congr;intro p _;show (!(kS p.1).sameKey (kS k))=_;rw [Jv]
open G (H6)
open G.T (F2 P6 X3 F3)
inductive Ow where
 | kb | mr | mw | pl | rd
 | run (i:Nat)
 | wt (i:Nat)
structure Rk where
 m:M3
 B:Nat
 c5:Nat
 pR:Nat
 wR:Nat
 c2:Nat
 uR:Nat
 b0:Nat
 b1:Nat
 b2:Nat
 b3:Nat
def pt (b:Nat):Value:=.pointer (some ⟨b,0,none⟩)
def Rk.go (x:Rk):Value:=.func (.func 84) #[] #[pt x.c5,pt x.pR,pt x.wR,pt x.c2,pt x.uR]
def Rk.be (x:Rk):Value:=.func (.func 87) #[] #[pt x.c2,pt x.c5,pt x.pR,pt x.uR]
def Rk.nx (x:Rk):Value:=.func (.func 117) #[] #[pt x.b0,pt x.b1,pt x.b2,pt x.b3]
def Kj:Rk:=⟨N7,0,0,0,0,0,0,0,0,0,0⟩
inductive VQ where
 | act | yR | fin
 | vR (j:Nat)
 deriving DecidableEq
structure Ru where
 k:Rk
 ls:List M.L4
 lv:Value
 v1:Value
 v2:Value
 wv:Value
 st:Bool
 wt:ByteArray
 r:R2
 qR:VQ
 wl:List Nat
def Ru.cells (x:Ru):List Value:=[.string x.k.m.nm,.bool true,.string x.k.m.nm,.string x.k.m.tl,.string x.k.m.ar,x.lv,.int .i64 x.r.code,.string x.r.tx,.string x.wt]
structure ic (base kb:Nat) (x:Ru) (t:TN) (s:RS) (w:World):Prop where
 hB:Cl w x.k.B 103 x.cells
 h7:Cl w x.k.c5 100 [pt x.k.B]
 h8:g_ w x.k.pR t
 h9:Cl w x.k.wR 149 [x.k.nx]
 h2:Cl w x.k.c2 57 [pt kb]
 h10:Cl w x.k.uR 151 [x.k.go]
 rw:Fb base x.k.b0 x.k.b1 x.k.b2 x.k.b3 w x.k.m.nm x.k.m.tl x.k.m.ar s x.v1 x.v2
 lk:w.ownsRow base 52 4 x.lv x.ls.length (R4 x.ls)
def Aw (x:Ru) (k:Nat):Prop:=k∈[x.k.B,x.k.c5,x.k.pR,x.k.wR,x.k.c2,x.k.uR,x.k.b0,x.k.b1,x.k.b2,x.k.b3]\/x.lv.ownBlock=some k\/x.v1.ownBlock=some k\/x.v2.ownBlock=some k
theorem Qa {w:World} {base:Nat} {e:TypeId} {size:Nat} {v:Value} {n:Nat} {xs:List Value} (h:w.ownsRow base e size v n xs) {k:Nat} (a:v.ownBlock=some k):k<w.heap.size:=(h.lt k a).2
theorem g_.lt {u:World} {B:Nat} {t:TN} (h:g_ u B t):B<u.heap.size:=(Ha.1 h).1
theorem ic.lt {base kb:Nat} {x:Ru} {t:TN} {s:RS} {w:World} (h:ic base kb x t s w) {k:Nat} (a:Aw x k):k<w.heap.size:=by
 rcases a with a | a | a | a
 · simp only [D_,Xf,Nk] at a
   rcases a with rfl | rfl | rfl | rfl | rfl | rfl | rfl | rfl | rfl | rfl
   · exact h.hB.lt
   · exact h.h7.lt
   · exact h.h8.lt
   · exact h.h9.lt
   · exact h.h2.lt
   · exact h.h10.lt
   · exact Q4 h.rw.h0
   · exact Q4 h.rw.h1
   · exact Q4 h.rw.h2
   exact Q4 h.rw.h3
 · exact Qa h.lk a
 · exact Qa h.rw.o1 a
 exact Qa h.rw.o2 a
theorem ic.keep {base kb:Nat} {x:Ru} {t:TN} {s:RS} {w w':World} (h:ic base kb x t s w) (a:∀ k,Aw x k->w'.heap[k]?=w.heap[k]?):ic base kb x t s w':=by
 have m:∀ k,k∈[x.k.B,x.k.c5,x.k.pR,x.k.wR,x.k.c2,x.k.uR,x.k.b0,x.k.b1,x.k.b2,x.k.b3]->w'.heap[k]?=w.heap[k]?:=fun k b=>a k (.inl b);refine ⟨(m _ X0).trans h.hB,(m _ X0).trans h.h7,(m _ X0).trans h.h8,(m _ X0).trans h.h9,(m _ X0).trans h.h2,(m _ X0).trans h.h10,⟨h.rw.AU,h.rw.yS,h.rw.DU,h.rw.QU,(m _ X0).trans h.rw.h0,(m _ X0).trans h.rw.h1,(m _ X0).trans h.rw.h2,(m _ X0).trans h.rw.h3,?_,?_⟩,?_⟩
 · exact Z0 h.rw.o1 fun k e=>a k (.inr (.inr (.inl e)))
 · exact Z0 h.rw.o2 fun k e=>a k (.inr (.inr (.inr e)))
 exact Z0 h.lk fun k e=>a k (.inr (.inl e))
inductive It where
 | go (i:Nat)
 | re (i:Nat) (r:R2) (b7 b5:Nat)
def It.i:It->Nat
 | .go i=>i
 | .re i _ _ _=>i
def It.v (ks:List Rk):It->Value
 | .go i=>(ks.getD i Kj).be
 | .re _ _ b7 b5=>.func (.func 121) #[] #[pt b7,pt b5]
def It.At (ks:List Rk) (w:World):It->Prop
 | .go _=>True
 | .re i r b7 b5=>Cl w b7 151 [(ks.getD i Kj).go]/\Cl w b5 34 [.int .i64 r.code,.string r.tx]
def It.own (ow:Nat->Option Ow):It->Prop
 | .go _=>True
 | .re _ _ b7 b5=>ow b7=none/\ow b5=none
structure Gh where
 rs:List Ru
 q:List It
 rv:Value
 ow:Nat->Option Ow
 lr:List (ByteArray×Value)
 lw:List (ByteArray×Value)
structure Fx where
 w0:World
 kb:Nat
 mr:Nat
 mw:Nat
 ta:Option Addr
 tc:Nat
 fs:List F2
 pv:Value
 ms:List M3
def Fx.base (f:Fx):Nat:=f.w0.heap.size
def Gh.ks (g:Gh):List Rk:=g.rs.map (·.k)
def M_ (f:Fx) (rv:Value):List Value:=[.slice f.ta f.fs.length f.tc,f.pv,.map (some f.mr),.map (some f.mw),rv]
structure Ab (f:Fx) (g:Gh) (w:World):Prop where
 bl:Below f.base f.w0 w
 FR:∀ k o,g.ow k=some o->f.base<=k
 kb:Cl w f.kb 98 (M_ f g.rv)
 BR:g.ow f.kb=some .kb
 mr:w.ownsMap prog 9 X9 f.mr g.lr.length (mapD g.lr)
 ar:Asc g.lr
 TR:g.ow f.mr=some .mr
 mw:w.ownsMap prog 9 X9 f.mw g.lw.length (mapD g.lw)
 aw:Asc g.lw
 ZR:g.ow f.mw=some .mw
 pl:w.ownsRow f.base 47 3 f.pv f.ms.length (G.R5 f.ms)
 jS:∀ k,f.pv.ownBlock=some k->g.ow k=some .pl
 rd:X8 w f.base 1 g.rv (g.q.map (It.v g.ks))
 ord:∀ k,g.rv.ownBlock=some k->g.ow k=some .rd
 its:∀ it∈g.q,it.At g.ks w/\it.own g.ow
 ru:∀ (i:Nat) x,g.rs[i]?=some x->ic f.base f.kb x (tn x.k.m x.ls) (Sg x.k.m x.ls) w
 ER:∀ (i:Nat) x,g.rs[i]?=some x->∀ k,Aw x k->g.ow k=some (.run i)
 wr:∀ (i:Nat) x,g.rs[i]?=some x->w.ownsRow f.base 151 1 x.wv x.wl.length (x.wl.map fun j=>(g.ks.getD j Kj).go)
 aS:∀ (i:Nat) x,g.rs[i]?=some x->∀ k,x.wv.ownBlock=some k->g.ow k=some (.wt i)
 lS:∀ (i:Nat) x,g.rs[i]?=some x->∀ j∈x.wl,j<g.rs.length
 key:∀ (i:Nat) x,g.rs[i]?=some x->G_ g.lr x.k.m.nm=some (pt x.k.B)
 only:∀ n,G_ g.lr n≠none->∃ (i:Nat) (x:Ru),g.rs[i]?=some x/\x.k.m.nm=n
 kw:∀ (i:Nat) x,g.rs[i]?=some x->(G_ g.lw x.k.m.nm).getD (.slice none 0 0)=x.wv
 JS:∀ n,G_ g.lw n≠none->∃ (i:Nat) (x:Ru),g.rs[i]?=some x/\x.k.m.nm=n
 inj:∀ (i j:Nat) x y,g.rs[i]?=some x->g.rs[j]?=some y->x.k.m.nm=y.k.m.nm->i=j
 JR:∀ it∈g.q,it.i<g.rs.length
theorem Kc {w w':World} {b n:Nat} {D:DataW Value} (h:w.ownsMap prog 9 X9 b n D) (a:w'.heap[b]?=w.heap[b]?):w'.ownsMap prog 9 X9 b n D:=by
 obtain ⟨es,d,c,r⟩:=h;exact ⟨es,d,a.trans c,r⟩
theorem Y6 {w:World} {b n:Nat} {D:DataW Value} (h:w.ownsMap prog 9 X9 b n D):b<w.heap.size:=by
 obtain ⟨es,clock,a,r⟩:=h;exact (Ha.1 a).1
theorem Ab.iK {f:Fx} {g:Gh} {w:World} (h:Ab f g w) (b:Nat->Option Ow) (ho:∀ k,k<w.heap.size->b k=g.ow k) (d:∀ k o,b k=some o->f.base<=k):Ab f { g with ow:=b } w where
 bl:=h.bl
 FR:=d
 kb:=h.kb
 BR:=(ho _ h.kb.lt).trans h.BR
 mr:=h.mr
 ar:=h.ar
 TR:=(ho _ (Y6 h.mr)).trans h.TR
 mw:=h.mw
 aw:=h.aw
 ZR:=(ho _ (Y6 h.mw)).trans h.ZR
 pl:=h.pl
 jS:=fun k e=>(ho _ (Qa h.pl e)).trans (h.jS k e)
 rd:=h.rd
 ord:=fun k e=>(ho _ (by obtain ⟨_,cur,j⟩:=h.rd.lt e;exact (Ha.1 j).1)).trans (h.ord k e)
 its:=fun it c=>by
  obtain ⟨h1,h2⟩:=h.its it c;refine ⟨h1,?_⟩
  cases it with
  | go i=>trivial
  | re i r b7 b5=>exact ⟨(ho _ h1.1.lt).trans h2.1,(ho _ h1.2.lt).trans h2.2⟩
 ru:=h.ru
 ER:=fun i x e k a=>(ho _ ((h.ru i x e).lt a)).trans (h.ER i x e k a)
 wr:=h.wr
 aS:=fun i x e k a=>(ho _ (Qa (h.wr i x e) a)).trans (h.aS i x e k a)
 lS:=h.lS
 key:=h.key
 only:=h.only
 kw:=h.kw
 JS:=h.JS
 inj:=h.inj
 JR:=h.JR
def ext (ow:Nat->Option Ow) (n:Nat) (o:Ow) (k:Nat):Option Ow:=if k<n then ow k else some o
theorem N8 {ow:Nat->Option Ow} {n:Nat} {o:Ow} {k:Nat} (h:k<n):ext ow n o k=ow k:=Y3 h
theorem Ik {ow:Nat->Option Ow} {n:Nat} {o:Ow} {k:Nat} (h:n<=k):ext ow n o k=some o:=R3 O0
theorem Ab.sz {f:Fx} {g:Gh} {w:World} (h:Ab f g w):f.base<=w.heap.size:=h.bl.size
theorem Ab.ext {f:Fx} {g:Gh} {w:World} (h:Ab f g w) (n:Nat) (hn:w.heap.size<=n) (o:Ow):Ab f { g with ow:=ext g.ow n o } w:=
 h.iK _ (fun k hk=>N8 O0) (fun k a e=>by
  rcases U5 k n with h1 | h1
  · rw [N8 h1] at e;exact h.FR k a e
  have:=h.sz;omega)
theorem Ab.grow {f:Fx} {g:Gh} {w w':World} (h:Ab f g w) (a:Below w.heap.size w w'):Ab f g w' where
 bl:=h.bl.trans (a.mono h.sz)
 FR:=h.FR
 kb:=h.kb.below a h.kb.lt
 BR:=h.BR
 mr:=Kc h.mr (a.block _ (Y6 h.mr))
 ar:=h.ar
 TR:=h.TR
 mw:=Kc h.mw (a.block _ (Y6 h.mw))
 aw:=h.aw
 ZR:=h.ZR
 pl:=Z0 h.pl fun k e=>a.block k (Qa h.pl e)
 jS:=h.jS
 rd:=h.rd.keep fun k e c=>a.block k c
 ord:=h.ord
 its:=fun it d=>by
  obtain ⟨h1,h2⟩:=h.its it d;refine ⟨?_,h2⟩
  cases it with
  | go i=>trivial
  | re i r b7 b5=>exact ⟨h1.1.below a h1.1.lt,h1.2.below a h1.2.lt⟩
 ru:=fun i x e=>(h.ru i x e).keep fun k b=>a.block k ((h.ru i x e).lt b)
 ER:=h.ER
 wr:=fun i x e=>Z0 (h.wr i x e) fun k b=>a.block k (Qa (h.wr i x e) b)
 aS:=h.aS
 lS:=h.lS
 key:=h.key
 only:=h.only
 kw:=h.kw
 JS:=h.JS
 inj:=h.inj
 JR:=h.JR
theorem Xu {l:List Ru} {i:Nat} {x x':Ru} (h:l[i]?=some x) (e:x'.k=x.k):(l.set i x').map (·.k)=l.map (·.k):=by
 apply vk;intro j;rw [Kb,Kb,Tm];by_cases a:i=j
 · subst a
   have b:=(Jd.1 h).1;rw [Y3 rfl,Y3 b,h];simp [e]
 rw [R3 a]
theorem Mf {l:List Ru} {i j:Nat} {x' y:Ru} (h:(l.set i x')[j]?=some y):(i=j/\y=x')\/(i≠j/\l[j]?=some y):=by
 rw [Tm] at h;by_cases a:i=j
 · rw [Y3 a] at h
   split at h
   · exact .inl ⟨a,(j6 h).symm⟩
   cases h
 rw [R3 a] at h;exact .inr ⟨a,h⟩
theorem xh {l:List Ru} {i:Nat} {x x':Ru} (h:l[i]?=some x):(l.set i x')[i]?=some x':=by
 rw [Fz ((Jd.1 h).1)]
theorem Za {l:List Ru} {i j:Nat} {x x' y:Ru} (h:l[i]?=some x) (b:l[j]?=some y):∃ z,(l.set i x')[j]?=some z/\(z=x'/\i=j\/z=y/\i≠j):=by
 by_cases a:i=j
 · subst a;exact ⟨x',xh h,.inl ⟨rfl,rfl⟩⟩
 exact ⟨y,by rw [Zz a];exact b,.inr ⟨rfl,a⟩⟩
theorem Ex.Mv {S:Nat->Prop} {w w':World} {N:Nat} (h:Ex S w w') (a:∀ k,S k->N<=k) (hN:N<=w.heap.size):Below N w w':=
 ⟨h.os,h.tape,h.output,h.size,fun k hk=>h.block k O0 (fun e=>by have:=a k e;omega)⟩
theorem Ab.run {f:Fx} {g:Gh} {w w':World} (h:Ab f g w) {i:Nat} {x x':Ru} (p:g.rs[i]?=some x) (F:Ex (fun k=>g.ow k=some (.run i)) w w') (J:ic f.base f.kb x' (tn x'.k.m x'.ls) (Sg x'.k.m x'.ls) w') (ho:∀ k,Aw x' k->g.ow k=some (.run i)) (B:x'.k=x.k) (P:x'.wv=x.wv) (O:x'.wl=x.wl):Ab f { g with rs:=g.rs.set i x' } w':=by
 have d:∀ k,k<w.heap.size->g.ow k≠some (.run i)->w'.heap[k]?=w.heap[k]?:=fun k b l=>F.block k b l;have D:(g.rs.set i x').map (·.k)=g.ks:=Xu p B;have o:∀ (j:Nat) y,(g.rs.set i x')[j]?=some y->∃ z,g.rs[j]?=some z/\y.k=z.k/\y.wv=z.wv/\y.wl=z.wl:=fun j y e=>by
  rcases Mf e with ⟨rfl,rfl⟩ | ⟨_,e⟩
  · exact ⟨x,p,B,P,O⟩
  exact ⟨y,e,rfl,rfl,rfl⟩
 exact {
  bl:=h.bl.trans (F.Mv (fun k e=>h.FR k _ e) h.sz)
  FR:=h.FR
  kb:=(d _ h.kb.lt (by rw [h.BR];simp)).trans h.kb
  BR:=h.BR
  mr:=Kc h.mr (d _ (Y6 h.mr) (by rw [h.TR];simp))
  ar:=h.ar
  TR:=h.TR
  mw:=Kc h.mw (d _ (Y6 h.mw) (by rw [h.ZR];simp))
  aw:=h.aw
  ZR:=h.ZR
  pl:=Z0 h.pl fun k e=>d k (Qa h.pl e) (by rw [h.jS k e];simp)
  jS:=h.jS
  rd:=by
   show X8 w' f.base 1 g.rv (g.q.map (It.v ((g.rs.set i x').map (·.k))));rw [D];exact h.rd.keep fun k e L=>d k L (by rw [h.ord k e];simp)
  ord:=h.ord
  its:=fun it C=>by
   obtain ⟨h1,h2⟩:=h.its it C;refine ⟨?_,h2⟩;show it.At ((g.rs.set i x').map (·.k)) w';rw [D]
   cases it with
   | go i=>trivial
   | re i r b7 b5=>exact ⟨(d _ h1.1.lt (by rw [h2.1];simp)).trans h1.1,(d _ h1.2.lt (by rw [h2.2];simp)).trans h1.2⟩
  ru:=fun j y e=>by
   rcases Mf e with ⟨rfl,rfl⟩ | ⟨K,e⟩
   · exact J
   exact (h.ru j y e).keep fun k b=>d k ((h.ru j y e).lt b) (by rw [h.ER j y e k b];simpa using fun c=>K c.symm)
  ER:=fun j y e k b=>by
   rcases Mf e with ⟨rfl,rfl⟩ | ⟨_,e⟩
   · exact ho k b
   exact h.ER j y e k b
  wr:=fun j y e=>by
   obtain ⟨z,a,_,s,A⟩:=o j y e;show w'.ownsRow f.base 151 1 y.wv y.wl.length (y.wl.map fun j=>(((g.rs.set i x').map (·.k)).getD j Kj).go);rw [D,s,A];exact Z0 (h.wr j z a) fun k b=>d k (Qa (h.wr j z a) b) (by rw [h.aS j z a k b];simp)
  aS:=fun j y e k b=>by
   obtain ⟨z,a,_,s,A⟩:=o j y e;rw [s] at b;exact h.aS j z a k b
  lS:=fun j y e k b=>by
   obtain ⟨z,a,_,s,A⟩:=o j y e;rw [A] at b;show k<(g.rs.set i x').length;rw [Ed];exact h.lS j z a k b
  key:=fun j y e=>by
   obtain ⟨z,a,u,_⟩:=o j y e;rw [u];exact h.key j z a
  only:=fun n l=>by
   obtain ⟨j,z,a,rfl⟩:=h.only n l;obtain ⟨y,t,⟨rfl,rfl⟩ | ⟨rfl,_⟩⟩:=Za (x':=x') p a
   · rw [p] at a
     obtain rfl:=j6 a;exact ⟨i,y,t,by rw [B]⟩
   exact ⟨j,y,t,rfl⟩
  kw:=fun j y e=>by
   obtain ⟨z,a,u,s,_⟩:=o j y e;rw [u,s];exact h.kw j z a
  JS:=fun n l=>by
   obtain ⟨j,z,a,rfl⟩:=h.JS n l;obtain ⟨y,t,⟨rfl,rfl⟩ | ⟨rfl,_⟩⟩:=Za (x':=x') p a
   · rw [p] at a
     obtain rfl:=j6 a;exact ⟨i,y,t,by rw [B]⟩
   exact ⟨j,y,t,rfl⟩
  inj:=fun j E y y' e Q l=>by
   obtain ⟨z,a,u,_⟩:=o j y e;obtain ⟨H,I,N,_⟩:=o E y' Q;rw [u,N] at l;exact h.inj j E z H a I l
  JR:=fun it C=>by
   show it.i<(g.rs.set i x').length;rw [Ed];exact h.JR it C }
theorem Ab.fP {f:Fx} {g:Gh} {w w':World} (h:Ab f g w) {rv':Value} {q':List It} (c:Ex (fun k=>g.ow k=some .kb\/g.ow k=some .rd) w w') (a:Cl w' f.kb 98 (M_ f rv')) (d:X8 w' f.base 1 rv' (q'.map (It.v g.ks))) (ho:∀ k,rv'.ownBlock=some k->g.ow k=some .rd) (n:∀ it∈q',it.At g.ks w'/\it.own g.ow) (l:∀ it∈q',it.i<g.rs.length):Ab f { g with q:=q',rv:=rv' } w':=by
 have b:∀ k,k<w.heap.size->¬ (g.ow k=some .kb\/g.ow k=some .rd)->w'.heap[k]?=w.heap[k]?:=fun k a m=>c.block k a m;exact {
  bl:=h.bl.trans (c.Mv (fun k e=>by rcases e with e | e <;> exact h.FR k _ e) h.sz)
  FR:=h.FR
  kb:=a
  BR:=h.BR
  mr:=Kc h.mr (b _ (Y6 h.mr) (by rw [h.TR];simp))
  ar:=h.ar
  TR:=h.TR
  mw:=Kc h.mw (b _ (Y6 h.mw) (by rw [h.ZR];simp))
  aw:=h.aw
  ZR:=h.ZR
  pl:=Z0 h.pl fun k e=>b k (Qa h.pl e) (by rw [h.jS k e];simp)
  jS:=h.jS
  rd:=d
  ord:=ho
  its:=n
  ru:=fun j y e=>(h.ru j y e).keep fun k a=>b k ((h.ru j y e).lt a) (by rw [h.ER j y e k a];simp)
  ER:=h.ER
  wr:=fun j y e=>Z0 (h.wr j y e) fun k a=>b k (Qa (h.wr j y e) a) (by rw [h.aS j y e k a];simp)
  aS:=h.aS
  lS:=h.lS
  key:=h.key
  only:=h.only
  kw:=h.kw
  JS:=h.JS
  inj:=h.inj
  JR:=l }
theorem Ab.wait {f:Fx} {g:Gh} {w w':World} (h:Ab f g w) {j:Nat} {y:Ru} {wv':Value} {jT:List Nat} {u:List (ByteArray×Value)} (t:g.rs[j]?=some y) (H:Ex (fun k=>g.ow k=some .mw\/g.ow k=some (.wt j)) w w') (N:w'.ownsMap prog 9 X9 f.mw u.length (mapD u)) (O:Asc u) (F:∀ n,G_ u n=if n=y.k.m.nm then some wv' else G_ g.lw n) (K:w'.ownsRow f.base 151 1 wv' jT.length (jT.map fun j=>(g.ks.getD j Kj).go)) (ho:∀ k,wv'.ownBlock=some k->g.ow k=some (.wt j)) (B:∀ i∈jT,i<g.rs.length):Ab f { g with rs:=g.rs.set j { y with wv:=wv',wl:=jT },lw:=u } w':=by
 have p:∀ k,k<w.heap.size->¬ (g.ow k=some .mw\/g.ow k=some (.wt j))->w'.heap[k]?=w.heap[k]?:=fun k d l=>H.block k d l;have C:(g.rs.set j { y with wv:=wv',wl:=jT }).map (·.k)=g.ks:=Xu t rfl;have o:∀ (i:Nat) z,(g.rs.set j { y with wv:=wv',wl:=jT })[i]?=some z->∃ a,g.rs[i]?=some a/\z.k=a.k/\z.ls=a.ls/\(∀ k,Aw z k↔Aw a k)/\(∀ w,ic f.base f.kb a (tn a.k.m a.ls) (Sg a.k.m a.ls) w->ic f.base f.kb z (tn z.k.m z.ls) (Sg z.k.m z.ls) w)/\(i≠j->z=a)/\(i=j->z.wv=wv'/\z.wl=jT):=fun i z e=>by
  rcases Mf e with ⟨rfl,rfl⟩ | ⟨L,e⟩
  · exact ⟨y,t,rfl,rfl,fun k=>Iff.rfl,fun w h=>⟨h.hB,h.h7,h.h8,h.h9,h.h2,h.h10,h.rw,h.lk⟩,fun c=>absurd rfl c,fun _=>⟨rfl,rfl⟩⟩
  exact ⟨z,e,rfl,rfl,fun k=>Iff.rfl,fun w h=>h,fun _=>rfl,fun c=>absurd c.symm L⟩
 have A:∀ (i:Nat) a,g.rs[i]?=some a->∃ z,(g.rs.set j { y with wv:=wv',wl:=jT })[i]?=some z/\z.k=a.k:=fun i a e=>by
  obtain ⟨z,b,⟨rfl,rfl⟩ | ⟨rfl,_⟩⟩:=Za (x':={ y with wv:=wv',wl:=jT }) t e
  · rw [t] at e
    obtain rfl:=j6 e;exact ⟨_,b,rfl⟩
  exact ⟨z,b,rfl⟩
 exact {
  bl:=h.bl.trans (H.Mv (fun k e=>by rcases e with e | e <;> exact h.FR k _ e) h.sz)
  FR:=h.FR
  kb:=(p _ h.kb.lt (by rw [h.BR];simp)).trans h.kb
  BR:=h.BR
  mr:=Kc h.mr (p _ (Y6 h.mr) (by rw [h.TR];simp))
  ar:=h.ar
  TR:=h.TR
  mw:=N
  aw:=O
  ZR:=h.ZR
  pl:=Z0 h.pl fun k e=>p k (Qa h.pl e) (by rw [h.jS k e];simp)
  jS:=h.jS
  rd:=by
   show X8 w' f.base 1 g.rv (g.q.map (It.v ((g.rs.set j { y with wv:=wv',wl:=jT }).map (·.k))));rw [C];exact h.rd.keep fun k e B=>p k B (by rw [h.ord k e];simp)
  ord:=h.ord
  its:=fun it x=>by
   obtain ⟨h1,h2⟩:=h.its it x;refine ⟨?_,h2⟩;show it.At ((g.rs.set j { y with wv:=wv',wl:=jT }).map (·.k)) w';rw [C]
   cases it with
   | go i=>trivial
   | re i r b7 b5=>exact ⟨(p _ h1.1.lt (by rw [h2.1];simp)).trans h1.1,(p _ h1.2.lt (by rw [h2.2];simp)).trans h1.2⟩
  ru:=fun i z e=>by
   obtain ⟨a,b,_,_,_,P,_⟩:=o i z e;exact P w' ((h.ru i a b).keep fun k d=>p k ((h.ru i a b).lt d) (by rw [h.ER i a b k d];simp))
  ER:=fun i z e k d=>by
   obtain ⟨a,b,_,_,hF,_⟩:=o i z e;exact h.ER i a b k ((hF k).1 d)
  wr:=fun i z e=>by
   obtain ⟨a,b,_,_,_,_,h1,h2⟩:=o i z e;show w'.ownsRow f.base 151 1 z.wv z.wl.length (z.wl.map fun i=>(((g.rs.set j { y with wv:=wv',wl:=jT }).map (·.k)).getD i Kj).go);rw [C];by_cases c:i=j
   · obtain ⟨U,c2⟩:=h2 c
     rw [U,c2];exact K
   rw [h1 c];exact Z0 (h.wr i a b) fun k d=>p k (Qa (h.wr i a b) d) (by rw [h.aS i a b k d];simpa using c)
  aS:=fun i z e k d=>by
   obtain ⟨a,b,_,_,_,_,h1,h2⟩:=o i z e;by_cases c:i=j
   · rw [(h2 c).1] at d
     rw [c];exact ho k d
   rw [h1 c] at d;exact h.aS i a b k d
  lS:=fun i z e k d=>by
   obtain ⟨a,b,_,_,_,_,h1,h2⟩:=o i z e;show k<(g.rs.set j { y with wv:=wv',wl:=jT }).length;rw [Ed];by_cases c:i=j
   · rw [(h2 c).2] at d
     exact B k d
   rw [h1 c] at d;exact h.lS i a b k d
  key:=fun i z e=>by
   obtain ⟨a,b,D,_⟩:=o i z e;rw [D];exact h.key i a b
  only:=fun n l=>by
   obtain ⟨i,a,b,rfl⟩:=h.only n l;obtain ⟨z,s,e⟩:=A i a b;exact ⟨i,z,s,by rw [e]⟩
  kw:=fun i z e=>by
   obtain ⟨a,b,D,_,_,_,h1,h2⟩:=o i z e;rw [F,D];by_cases c:i=j
   · subst c
     rw [t] at b;obtain rfl:=j6 b;rw [Y3 rfl,(h2 rfl).1];rfl
   rw [R3 (fun e=>c (h.inj i j a y b t e)),h1 c];exact h.kw i a b
  JS:=fun n l=>by
   rw [F] at l;by_cases c:n=y.k.m.nm
   · obtain ⟨z,s,e⟩:=A j y t
     exact ⟨j,z,s,by rw [e,c]⟩
   rw [R3 c] at l;obtain ⟨i,a,b,rfl⟩:=h.JS n l;obtain ⟨z,s,e⟩:=A i a b;exact ⟨i,z,s,by rw [e]⟩
  inj:=fun i E z J e S l=>by
   obtain ⟨a,b,R,_⟩:=o i z e;obtain ⟨I,s,Q,_⟩:=o E J S;rw [R,Q] at l;exact h.inj i E a I b s l
  JR:=fun it x=>by
   show it.i<(g.rs.set j { y with wv:=wv',wl:=jT }).length;rw [Ed];exact h.JR it x }
theorem o7 {l:List Ru} {j:Nat} {x y:Ru} (h:(l++[x])[j]?=some y):(j=l.length/\y=x)\/(j<l.length/\l[j]?=some y):=by
 rcases U5 j l.length with a | a
 · rw [Eb a] at h
   exact .inr ⟨a,h⟩
 rw [ji a] at h;have:=(Jd.1 h).1;simp at this;have e:j=l.length:=O0;subst e;simp at h;exact .inl ⟨rfl,h.symm⟩
theorem Il {l:List Ru} {j:Nat} {x y:Ru} (h:l[j]?=some y):(l++[x])[j]?=some y:=by
 rw [Eb ((Jd.1 h).1)];exact h
theorem lu {l:List Ru} {x:Ru} {j:Nat} (h:j<l.length):((l++[x]).map (·.k)).getD j Kj=(l.map (·.k)).getD j Kj:=by
 rw [mf,Ao,Ao,Eb (by simpa using h)]
theorem Ab.new {f:Fx} {g:Gh} {w w':World} (h:Ab f g w) {x:Ru} {p:List (ByteArray×Value)} (J:G_ g.lr x.k.m.nm=none) (F:Ex (fun k=>g.ow k=some .mr) w w') (K:w'.ownsMap prog 9 X9 f.mr p.length (mapD p)) (P:Asc p) (E:∀ n,G_ p n=if n=x.k.m.nm then some (pt x.k.B) else G_ g.lr n) (I:ic f.base f.kb x (tn x.k.m x.ls) (Sg x.k.m x.ls) w') (ho:∀ k,Aw x k->g.ow k=some (.run g.rs.length)) (C:x.wv=.slice none 0 0) (u:x.wl=[]):Ab f { g with rs:=g.rs++[x],lr:=p } w':=by
 have d:∀ k,k<w.heap.size->¬ (g.ow k=some .mr)->w'.heap[k]?=w.heap[k]?:=fun k a b=>F.block k a b;have t:∀ (j:Nat) y,g.rs[j]?=some y->y.k.m.nm≠x.k.m.nm:=fun j y s e=>by
  have:=h.key j y s;rw [e,J] at this;cases this
 have N:∀ it∈g.q,It.v ((g.rs++[x]).map (·.k)) it=It.v g.ks it:=fun it l=>by
  cases it with
  | go i=>have A:i<g.rs.length:=h.JR _ l;show Rk.be _=Rk.be _;rw [lu A];rfl
  | re=>rfl
 exact {
  bl:=h.bl.trans (F.Mv (fun k e=>h.FR k _ e) h.sz)
  FR:=h.FR
  kb:=(d _ h.kb.lt (by rw [h.BR];simp)).trans h.kb
  BR:=h.BR
  mr:=K
  ar:=P
  TR:=h.TR
  mw:=Kc h.mw (d _ (Y6 h.mw) (by rw [h.ZR];simp))
  aw:=h.aw
  ZR:=h.ZR
  pl:=Z0 h.pl fun k e=>d k (Qa h.pl e) (by rw [h.jS k e];simp)
  jS:=h.jS
  rd:=by
   show X8 w' f.base 1 g.rv (g.q.map (It.v ((g.rs++[x]).map (·.k))));rw [Bo N];exact h.rd.keep fun k e L=>d k L (by rw [h.ord k e];simp)
  ord:=h.ord
  its:=fun it l=>by
   obtain ⟨h1,h2⟩:=h.its it l;refine ⟨?_,h2⟩;show it.At ((g.rs++[x]).map (·.k)) w'
   cases it with
   | go i=>trivial
   | re i r b7 b5=>
    refine ⟨?_,(d _ h1.2.lt (by rw [h2.2];simp)).trans h1.2⟩;have A:i<g.rs.length:=h.JR _ l;rw [lu A];exact (d _ h1.1.lt (by rw [h2.1];simp)).trans h1.1
  ru:=fun j y e=>by
   rcases o7 e with ⟨rfl,rfl⟩ | ⟨_,e⟩
   · exact I
   exact (h.ru j y e).keep fun k a=>d k ((h.ru j y e).lt a) (by rw [h.ER j y e k a];simp)
  ER:=fun j y e k a=>by
   rcases o7 e with ⟨rfl,rfl⟩ | ⟨_,e⟩
   · exact ho k a
   exact h.ER j y e k a
  wr:=fun j y e=>by
   show w'.ownsRow f.base 151 1 y.wv y.wl.length (y.wl.map fun i=>(((g.rs++[x]).map (·.k)).getD i Kj).go);rcases o7 e with ⟨rfl,rfl⟩ | ⟨_,e⟩
   · rw [C,u]
     exact F9 _ _ _ _
   have Q:(y.wl.map fun i=>(((g.rs++[x]).map (·.k)).getD i Kj).go)=y.wl.map fun i=>(g.ks.getD i Kj).go:=Bo fun i O=>by rw [lu (h.lS j y e i O)];rfl
   rw [Q];exact Z0 (h.wr j y e) fun k a=>d k (Qa (h.wr j y e) a) (by rw [h.aS j y e k a];simp)
  aS:=fun j y e k a=>by
   rcases o7 e with ⟨rfl,rfl⟩ | ⟨_,e⟩
   · rw [C] at a;cases a
   exact h.aS j y e k a
  lS:=fun j y e k a=>by
   show k<(g.rs++[x]).length;rw [Q7];rcases o7 e with ⟨rfl,rfl⟩ | ⟨_,e⟩
   · rw [u] at a;cases a
   have:=h.lS j y e k a;omega
  key:=fun j y e=>by
   rw [E];rcases o7 e with ⟨rfl,rfl⟩ | ⟨_,e⟩
   · rw [Y3 rfl]
   rw [R3 (t j y e)];exact h.key j y e
  only:=fun n b=>by
   rw [E] at b;by_cases c:n=x.k.m.nm
   · exact ⟨g.rs.length,x,X0,c.symm⟩
   rw [R3 c] at b;obtain ⟨j,y,s,e⟩:=h.only n b;exact ⟨j,y,Il s,e⟩
  kw:=fun j y e=>by
   rcases o7 e with ⟨rfl,rfl⟩ | ⟨_,e⟩
   · have:G_ g.lw y.k.m.nm=none:=Ph fun b=>by
      obtain ⟨j,z,H,e⟩:=h.JS _ b;exact t j z H e
     rw [this,C];rfl
   exact h.kw j y e
  JS:=fun n b=>by
   obtain ⟨j,y,s,e⟩:=h.JS n b;exact ⟨j,y,Il s,e⟩
  inj:=fun j D y y' e o b=>by
   rcases o7 e with ⟨rfl,rfl⟩ | ⟨_,e⟩
   · rcases o7 o with ⟨rfl,rfl⟩ | ⟨_,o⟩
     · rfl
     exact absurd b.symm (t D y' o)
   rcases o7 o with ⟨rfl,u⟩ | ⟨_,o⟩
   · rw [u] at b;exact absurd b (t j y (by assumption))
   exact h.inj j D y y' e o b
  JR:=fun it l=>by
   show it.i<(g.rs++[x]).length;rw [Q7];have:=h.JR it l;omega }
end Go.Proofs.YtdjaajjndfbpmaaGreatDoor
