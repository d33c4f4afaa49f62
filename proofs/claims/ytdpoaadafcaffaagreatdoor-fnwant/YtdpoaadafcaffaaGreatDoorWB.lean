import Derived.Test.YtdpoaadafcaffaaGreatDoorZ22
import Derived.Laws.Bits64
set_option linter.unusedVariables false
set_option maxHeartbeats 8000000
set_option maxRecDepth 100000
namespace Go.Proofs.YtdpoaadafcaffaaGreatDoor
open Proofs.Tryz
open Go.RowKit
theorem Gu (x y:Int) (hx:0<=x) (hx1:x<4294967296) (hy:0<=y) (hy1:y<4294967296):0<=bits .xor .i64 x y/\bits .xor .i64 x y<4294967296:=by
 obtain ⟨a,rfl⟩:=Int.eq_ofNat_of_zero_le hx;obtain ⟨b,rfl⟩:=Int.eq_ofNat_of_zero_le hy;have ha:a<4294967296:=O0;have hb:b<4294967296:=O0;have a3J:a ^^^ b<2 ^ 32:=Nat.xor_lt_two_pow O0 O0;have h1:(BitVec.ofInt 64 (a:Int)).toNat=a:=by
  rw [BitVec.ofInt_natCast,BitVec.toNat_ofNat];exact Nat.mod_eq_of_lt O0
 have h2:(BitVec.ofInt 64 (b:Int)).toNat=b:=by
  rw [BitVec.ofInt_natCast,BitVec.toNat_ofNat];exact Nat.mod_eq_of_lt O0
 have e:bits .xor .i64 (a:Int) (b:Int)=IntKind.i64.wrap ((BitVec.ofInt 64 (a:Int) ^^^ BitVec.ofInt 64 (b:Int)).toNat:Int):=rfl;rw [e,BitVec.toNat_xor,h1,h2,IntKind.wrap_i64];omega
theorem Xv {x n:Int} (hn:1<=n):0<=x % n/\x % n<n:=⟨Int.emod_nonneg _ O0,Int.emod_lt_of_pos _ O0⟩
theorem FC (w:World) (q b off L cap p:Nat) (n:Int) (hn1:1<=n) (hn2:n<=1000000) (hp:p<=1000000)
 (c0:w.cell? ⟨q,0,none⟩=some (.slice (some ⟨b,off,none⟩) L cap)) (c1:w.cell? ⟨q,1,none⟩=some (.int .i64 p)) (fz:w.frozen? ⟨q,1,none⟩=false)
 (hl:L<=2000) (hlt:p<L) (z1:Int) (hz1:0<=z1/\z1<=255) (hc1:w.cell? ⟨b,off+p,none⟩=some (.int .u8 z1)) (hbq:b≠q):
 Calls prog 31 #[.pointer (some ⟨q,0,none⟩),.int .i64 n] w fun e w'=>(∃ r:Int,e=.returned (.int .i64 r)/\0<=r/\r<n)/\∃ nq,w'=(w.setCell ⟨q,1,none⟩ (.int .i64 (p+1))).drewN nq:=by
 have hL0:¬ L=0:=O0;have hne:((L:Int)==0)=false:=by simp only [beq_eq_false_iff_ne];omega
 go_enter func31,ntmps31;go_wp2;go_ret;exact ⟨⟨_,rfl,Xv hn1⟩,0,rfl⟩
theorem Ur (w:World) (q cap p:Nat) (a:Option Addr) (n:Int) (hn1:1<=n) (hn2:n<=1000000) (hp:p<=1000000)
 (c0:w.cell? ⟨q,0,none⟩=some (.slice a 0 cap)) (c1:w.cell? ⟨q,1,none⟩=some (.int .i64 p)) (fz:w.frozen? ⟨q,1,none⟩=false):
 Calls prog 31 #[.pointer (some ⟨q,0,none⟩),.int .i64 n] w fun e w'=>(∃ r:Int,e=.returned (.int .i64 r)/\0<=r/\r<n)/\∃ nq,w'=(w.setCell ⟨q,1,none⟩ (.int .i64 (p+1))).drewN nq:=by
 go_enter func31,ntmps31;go_wp2;go_ret;exact ⟨⟨0,rfl,O0,O0⟩,0,rfl⟩
theorem iB (w:World) (q:Nat) (b off:Nat) (L:Nat) (cap:Nat) (p:Nat) (n:Int) (hn1:1<=n) (hn2:n<=1000000) (hp:p<=1000000)
 (c0:w.cell? ⟨q,0,none⟩=some (.slice (some ⟨b,off,none⟩) L cap)) (c1:w.cell? ⟨q,1,none⟩=some (.int .i64 p)) (fz:w.frozen? ⟨q,1,none⟩=false)
 (hl:L<=2000) (h0:0<L) (hlt:L<=p) (z1 z2:Int) (hz1:0<=z1/\z1<=255) (hz2:0<=z2/\z2<=255)
 (hc1:w.cell? ⟨b,off+p % L,none⟩=some (.int .u8 z1)) (hc2:w.cell? ⟨b,off+(p*7+3) % L,none⟩=some (.int .u8 z2)) (hbq:b≠q):
 Calls prog 31 #[.pointer (some ⟨q,0,none⟩),.int .i64 n] w fun e w'=>(∃ r:Int,e=.returned (.int .i64 r)/\0<=r/\r<n)/\∃ nq,w'=(w.setCell ⟨q,1,none⟩ (.int .i64 (p+1))).drewN nq:=by
 have hL0:¬ L=0:=O0;have hne:((L:Int)==0)=false:=by simp only [beq_eq_false_iff_ne];omega
 have m1:(0:Int)<=(p:Int) % (L:Int):=Int.emod_nonneg _ O0;have m2:(p:Int) % (L:Int)<(L:Int):=Int.emod_lt_of_pos _ O0;have m3:(0:Int)<=((p:Int)*7+3) % (L:Int):=Int.emod_nonneg _ O0;have m4:((p:Int)*7+3) % (L:Int)<(L:Int):=Int.emod_lt_of_pos _ O0;have d1:(0:Int)<=(p:Int) / (L:Int):=Int.ediv_nonneg O0 O0;have d2:(p:Int) / (L:Int)<=(p:Int):=Int.ediv_le_self _ O0;have hc1':w.cell? ⟨b,off+((p:Int) % (L:Int)).toNat,none⟩=some (.int .u8 z1):=by
  have:((p:Int) % (L:Int)).toNat=p % L:=O0;rw [this];exact hc1
 have hc2':w.cell? ⟨b,off+(((p:Int)*7+3) % (L:Int)).toNat,none⟩=some (.int .u8 z2):=by
  have:(((p:Int)*7+3) % (L:Int)).toNat=(p*7+3) % L:=by
   have e:((p:Int)*7+3) % (L:Int)=(((p*7+3) % L:Nat):Int):=U0;rw [e];rfl
  rw [this];exact hc2
 go_enter func31,ntmps31
 go_wp2_with fail
 refine wp_region_quiet_lit I1 I1 ?_
 repeat (any_goals (first | go_big_quiet_step (fail) | quiet_step (fail)))
 all_goals (refine wpQuiet_nil ?_;intro _ hw';obtain ⟨nq,hw''⟩:=hw';subst hw'')
 have hx:=Gu (z1*131+z2*1117+p*29+(p:Int) / L*53) ((z1*131+z2*1117+p*29+(p:Int) / L*53) / 64) O0 O0 O0 O0
 all_goals go_wp2
 go_ret;exact ⟨⟨_,rfl,Xv hn1⟩,nq,rfl⟩
structure Pe (q:Nat) (w w':World):Prop where
 os:w'.os=w.os
 tape:w'.tape=w.tape
 output:w'.output=w.output
 size:w'.heap.size=w.heap.size
 block:∀ k,k≠q->w'.heap[k]?=w.heap[k]?
theorem Pe.cell {q:Nat} {w w':World} (h:Pe q w w') {p:Addr} (hp:p.block≠q):w'.cell? p=w.cell? p:=World.cell?_of_block (w:=w) (h.block p.block hp)
theorem Pe.below {q B:Nat} {w w':World} (h:Pe q w w') (hB:B<=q):Below B w w':=⟨h.os,h.tape,h.output,by rw [h.size];exact Nat.le_refl _,fun k hk=>h.block k O0⟩
theorem Hq (w:World) (q j:Nat) (v:Value) (nq:Nat):Pe q w ((w.setCell ⟨q,j,none⟩ v).drewN nq):=
 ⟨rfl,rfl,rfl,U0,fun k hk=>Below.heap_setCell w ⟨q,j,none⟩ v k hk⟩
def qh (w:World) (q p:Nat):Prop:=
 ∃ (a:Option Addr) (L cap:Nat),w.cell? ⟨q,0,none⟩=some (.slice a L cap)/\w.cell? ⟨q,1,none⟩=some (.int .i64 p)/\w.frozen? ⟨q,1,none⟩=false/\L<=2000/\
  (L=0\/∃ b off,a=some ⟨b,off,none⟩/\b<q/\∀ i,i<L->∃ z:Int,(0<=z/\z<=255)/\w.cell? ⟨b,off+i,none⟩=some (.int .u8 z))
theorem dh {w:World} {a:Addr} {v:Value} (h:w.cell? a=some v):a.block<w.heap.size:=by
 rcases Nat.lt_or_ge a.block w.heap.size with h' | h'
 · exact h'
 · simp [World.cell?,Array.getElem?_eq_none h'] at h
theorem qh.lt {w:World} {q p:Nat} (h:qh w q p):q<w.heap.size:=by
 obtain ⟨a,L,cap,c0,_⟩:=h;exact dh c0
theorem qh.later {w w':World} {q p B:Nat} (h:qh w q p) (hb:Below B w w') (hq:q<B):qh w' q p:=by
 obtain ⟨a,L,cap,c0,c1,fz,hl,hr⟩:=h;refine ⟨a,L,cap,by rw [hb.cell (by exact hq)];exact c0,by rw [hb.cell (by exact hq)];exact c1,by rw [hb.frozen (by exact hq)];exact fz,hl,?_⟩;rcases hr with h0 | ⟨b,off,ha,hbq,hc⟩
 · exact .inl h0
 · refine .inr ⟨b,off,ha,hbq,fun i hi=>?_⟩
   obtain ⟨z,hz,hcz⟩:=hc i hi;exact ⟨z,hz,by rw [hb.cell (by exact Nat.lt_trans hbq hq)];exact hcz⟩
theorem qh.step {w:World} {q p:Nat} (h:qh w q p) (nq:Nat):qh ((w.setCell ⟨q,1,none⟩ (.int .i64 ((p:Int)+1))).drewN nq) q (p+1):=by
 obtain ⟨a,L,cap,c0,c1,fz,hl,hr⟩:=h;refine ⟨a,L,cap,?_,?_,?_,hl,?_⟩
 · show (w.setCell _ _).cell? _=_
   rw [<- c0];exact World.cell?_setCell_other _ _ _ _ U0
 · show (w.setCell _ _).cell? _=_
   rw [World.cell?_setCell_same _ _ _ c1];simp
 · show (w.setCell _ _).frozen? _=_
   rw [<- fz];simp
 · rcases hr with h0 | ⟨b,off,ha,hbq,hc⟩
   · exact .inl h0
   · refine .inr ⟨b,off,ha,hbq,fun i hi=>?_⟩
     obtain ⟨z,hz,hcz⟩:=hc i hi;refine ⟨z,hz,?_⟩;show (w.setCell _ _).cell? _=_;rw [<- hcz];exact World.cell?_setCell_other _ _ _ _ (by intro h;injection h with h1 _;omega)
theorem pick (w:World) (q p:Nat) (n:Int) (hn1:1<=n) (hn2:n<=1000000) (hp:p<=1000000) (hr:qh w q p):
 Calls prog 31 #[.pointer (some ⟨q,0,none⟩),.int .i64 n] w fun e w'=>(∃ r:Int,e=.returned (.int .i64 r)/\0<=r/\r<n)/\qh w' q (p+1)/\Pe q w w':=by
 have h:Calls prog 31 #[.pointer (some ⟨q,0,none⟩),.int .i64 n] w fun e w'=>(∃ r:Int,e=.returned (.int .i64 r)/\0<=r/\r<n)/\∃ nq,w'=(w.setCell ⟨q,1,none⟩ (.int .i64 (p+1))).drewN nq:=by
  obtain ⟨a,L,cap,c0,c1,fz,hl,hrow⟩:=hr;rcases hrow with h0 | ⟨b,off,rfl,hbq,hc⟩
  · subst h0
    exact Ur w q cap p a n hn1 hn2 hp c0 c1 fz
  · rcases Nat.lt_or_ge p L with hlt | hge
    · obtain ⟨z,hz,hcz⟩:=hc p hlt
      exact FC w q b off L cap p n hn1 hn2 hp c0 c1 fz hl hlt z hz hcz O0
    · rcases Nat.eq_zero_or_pos L with h0 | h0
      · subst h0
        exact Ur w q cap p _ n hn1 hn2 hp c0 c1 fz
      · obtain ⟨z1,hz1,hc1⟩:=hc (p % L) (Nat.mod_lt _ h0)
        obtain ⟨z2,hz2,hc2⟩:=hc ((p*7+3) % L) (Nat.mod_lt _ h0);exact iB w q b off L cap p n hn1 hn2 hp c0 c1 fz hl h0 hge z1 z2 hz1 hz2 hc1 hc2 O0
 refine h.mono ?_;rintro e w' ⟨h1,nq,rfl⟩;exact ⟨h1,hr.step nq,Hq _ _ _ _ _⟩
def BytesAt (w:World) (a:Option Addr) (L:Nat):Prop:=
 L=0\/∃ b off,a=some ⟨b,off,none⟩/\∀ i,i<L->∃ z:Int,(0<=z/\z<=255)/\w.cell? ⟨b,off+i,none⟩=some (.int .u8 z)
theorem Pv {w:World} {a:Option Addr} {L cap:Nat} (h:BytesAt w a L) (hL:L<=2000):qh (w.alloc (.cells #[.slice a L cap,.int .i64 0] 68)) w.heap.size 0:=by
 refine ⟨a,L,cap,U0,U0,U0,hL,?_⟩;rcases h with h | ⟨b,off,ha,hc⟩
 · exact .inl h
 · rcases Nat.eq_zero_or_pos L with h0 | h0
   · exact .inl h0
   · have hb:b<w.heap.size:=by
      obtain ⟨z,_,hz⟩:=hc 0 h0;exact dh hz
     refine .inr ⟨b,off,ha,hb,fun i hi=>?_⟩;obtain ⟨z,hz,hcz⟩:=hc i hi;exact ⟨z,hz,by rw [((Below.refl w.heap.size w).alloc Q8 _).cell (by exact hb)];exact hcz⟩
theorem c13 (a:Option Addr) (L cap:Nat) (w:World) (hL:L<=1048576) (hcap:L<=cap) (h:BytesAt w a L):
 Calls prog 13 #[.slice a L cap] w fun e w'=>e=.returned (.pointer (some ⟨w.heap.size,0,none⟩))/\qh w' w.heap.size 0/\Below w.heap.size w w'/\w'.heap.size=w.heap.size+1:=by
 by_cases h2:2000<L
 · have HR:Hid (qh (w.alloc (.cells #[.slice a 2000 cap,.int .i64 0] 68)) w.heap.size 0):=by
    refine Pv ?_ Q8;rcases h with h | ⟨b,off,ha,hc⟩
    · omega
    · exact .inr ⟨b,off,ha,fun i hi=>hc i O0⟩
   rcases h with h | ⟨b,off,rfl,hc⟩
   · omega
   clear hc;go_enter func13,ntmps13;go_wp2;go_ret;exact ⟨rfl,HR.out,bA,U0⟩
 · have HR:Hid (qh (w.alloc (.cells #[.slice a L cap,.int .i64 0] 68)) w.heap.size 0):=Pv h O0
   clear h;go_enter func13,ntmps13;go_wp2;go_ret;exact ⟨rfl,HR.out,bA,U0⟩
def o8 (w:World) (q P:Nat):Prop:=∃ p,p<=P/\qh w q p
theorem o8.lt {w:World} {q P:Nat} (h:o8 w q P):q<w.heap.size:=by obtain ⟨p,_,h⟩:=h;exact h.lt
theorem o8.mono {w:World} {q P P':Nat} (h:o8 w q P) (hp:P<=P'):o8 w q P':=by obtain ⟨p,h1,h2⟩:=h;exact ⟨p,O0,h2⟩
theorem o8.later {w w':World} {q P:Nat} (h:o8 w q P) (hb:Below w.heap.size w w'):o8 w' q P:=by obtain ⟨p,h1,h2⟩:=h;exact ⟨p,h1,h2.later hb h2.lt⟩
theorem Pe.but {q:Nat} {w w':World} (h:Pe q w w'):But q w w':=⟨h.os,h.tape,h.output,by rw [h.size];exact Nat.le_refl _,fun k _ hne=>h.block k hne⟩
theorem But.later {q:Nat} {w w' u:World} (h:But q w w') (hb:Below w'.heap.size w' u):But q w u:=h.trans (But.of_below hb)
theorem K6 (w:World) (q P:Nat) (n:Int) (hn1:1<=n) (hn2:n<=1000000) (hp:P<=1000000) (hr:o8 w q P):
 Calls prog 31 #[.pointer (some ⟨q,0,none⟩),.int .i64 n] w fun e w'=>(∃ r:Int,e=.returned (.int .i64 r)/\0<=r/\r<n)/\o8 w' q (P+1)/\Pe q w w':=by
 obtain ⟨p,h1,h2⟩:=hr;refine (pick w q p n hn1 hn2 O0 h2).mono ?_;rintro e w' ⟨ha,hb,hc⟩;exact ⟨ha,⟨p+1,O0,hb⟩,hc⟩
theorem RJ (s:ByteArray) (n:Nat) (w:World) (hs:s.size<=4) (hn:n<=1000):
 Calls prog 66 #[.string s,.int .i64 n] w fun e w'=>(∃ x:ByteArray,e=.returned (.string x)/\x.size<=4000)/\w'=w:=by
 have h0:(⟨#[]⟩:ByteArray).size+s.size*n<=4000:=by
  have:=Nat.mul_le_mul hs hn;have e:(⟨#[]⟩:ByteArray).size=0:=rfl;omega
 go_enter func66,ntmps66
 go_wp2_with fail
 go_loop [0,1,5] (fun a b c=>∃ (t:ByteArray) (m:Nat) (o:ByteArray),a=.string t/\b=.int .i64 m/\c=.string o/\Hid (o.size+t.size*m<=4000)/\m<=1000/\o.size<=4000/\t.size<=8000) (fun _ b _=>(intOf b).toNat)
 case atStart=>exact ⟨s,n,⟨#[]⟩,rfl,rfl,rfl,h0,hn,J3,O0⟩
 case round=>
  obtain ⟨t,m,o,rfl,rfl,rfl,hh,hm,ho,ht⟩:=hrel;by_cases hz:m=0
  · subst hz
    go_wp2;go_ret;exact ⟨⟨o,rfl,ho⟩,rfl⟩
  · have hpos:(0:Int)<(m:Int):=O0
    have ht4:t.size<=4000:=by
     have:=Nat.le_mul_of_pos_right t.size (show 0<m by omega);have:=hh.out;omega
    have a3K:t.size+t.size<=8000:=O0;rcases Nat.mod_two_eq_zero_or_one m with h2 | h2
    · have h2':(m:Int) % 2=0:=O0
      have hk:Hid (o.size+(t++t).size*(m / 2)<=4000):=by
       have e:(t++t).size*(m / 2)=t.size*m:=by
        rw [ByteArray.size_append];obtain ⟨c,rfl⟩:∃ c,m=2*c:=⟨m / 2,O0⟩;rw [Nat.mul_div_cancel_left _ O0,<- Nat.two_mul,Nat.mul_comm 2 t.size,Nat.mul_assoc]
       show _<=_;rw [e];exact hh.out
      go_wp2
      go_round
      case rel=>exact ⟨t++t,m / 2,o,rfl,by go_num,rfl,hk,O0,ho,by rw [ByteArray.size_append];omega⟩
      case measure=>simp [intOf];omega
    · have h2':(m:Int) % 2=1:=O0
      have hk:Hid ((o++t).size+(t++t).size*(m / 2)<=4000):=by
       have e:(o++t).size+(t++t).size*(m / 2)=o.size+t.size*m:=by
        rw [ByteArray.size_append,ByteArray.size_append];obtain ⟨c,rfl⟩:∃ c,m=2*c+1:=⟨m / 2,O0⟩;rw [show (2*c+1) / 2=c by omega,<- Nat.two_mul,Nat.mul_add,Nat.mul_one,<- Nat.mul_assoc,Nat.mul_comm t.size 2];omega
       show _<=_;rw [e];exact hh.out
      have hot:(o++t).size<=4000:=by have h:=hk.out;have:=Nat.zero_le ((t++t).size*(m / 2));omega
      have a3L:o.size+t.size<=4000:=by rw [ByteArray.size_append] at hot;exact hot
      go_wp2
      go_round
      case rel=>exact ⟨t++t,m / 2,o++t,rfl,by go_num,rfl,hk,O0,hot,by rw [ByteArray.size_append];omega⟩
      case measure=>simp [intOf];omega
theorem Pw (op:Int) (w:World):
 Calls prog 61 #[.int .i64 op] w fun e w'=>e=.returned (.agg #[.int .i64 op,.string ⟨#[]⟩,.int .i64 0])/\Below w.heap.size w w':=by
 go_enter func61,ntmps61;go_wp2;refine bodyPost_ret (v:=.agg #[.int .i64 op,.string ⟨#[]⟩,.int .i64 0]) (by simp [results,Tryz.results61,go_sem]) rfl ⟨rfl,?_⟩;exact bA
theorem PK (op:Int) (s:ByteArray) (w:World):
 Calls prog 99 #[.int .i64 op,.string s] w fun e w'=>e=.returned (.agg #[.int .i64 op,.string s,.int .i64 0])/\Below w.heap.size w w':=by
 go_enter func99,ntmps99;go_wp2;refine bodyPost_ret (v:=.agg #[.int .i64 op,.string s,.int .i64 0]) (by simp [results,Tryz.results99,go_sem]) rfl ⟨rfl,?_⟩;exact bA
theorem uI (q P:Nat) (w:World) (hp:P<=100000) (hr:o8 w q P):
 Calls prog 57 #[.pointer (some ⟨q,0,none⟩)] w fun e w'=>(∃ x:ByteArray,e=.returned (.string x)/\x.size<=20)/\o8 w' q (P+2)/\But q w w':=by
 have HR:=Q0 hr;clear hr;go_enter func57,ntmps57
 go_wp2_with fail
 refine (K6 w q P 13 O0 O0 O0 HR.out).mono ?_;rintro e w1 ⟨⟨r,rfl,h0,UQ⟩,h1,ho⟩;have H1:=Q0 h1;have HB1:=Q0 ho.but;clear h1 ho;obtain rfl | rfl | rfl | rfl | rfl | rfl | rfl | rfl | rfl | rfl | rfl | rfl | rfl:r=0\/r=1\/r=2\/r=3\/r=4\/r=5\/r=6\/r=7\/r=8\/r=9\/r=10\/r=11\/r=12:=O0
 · clear h0 UQ
   go_wp2;go_ret;exact ⟨⟨_,rfl,J3⟩,H1.out.mono O0,HB1.out⟩
 · clear h0 UQ
   go_wp2;go_ret;exact ⟨⟨_,rfl,J3⟩,H1.out.mono O0,HB1.out⟩
 · clear h0 UQ
   go_wp2_with fail
   refine (K6 w1 q (P+1) 5 O0 O0 O0 H1.out).mono ?_;rintro e w2 ⟨⟨r2,rfl,h20,bZ⟩,h2,ho2⟩;have H2:=Q0 h2;have HB2:=Q0 (HB1.out.trans ho2.but);clear h2 ho2;obtain ⟨m,rfl⟩:=Int.eq_ofNat_of_zero_le h20;have hm:m<100:=O0;have hdl:(K3 (Lib.decDigits m)).size<=2:=by rw [Y2];exact Da m hm
   go_wp2_with fail
   refine (Np m w2 hm).mono ?_;rintro e w3 ⟨rfl,hb3⟩;go_wp2;go_ret;exact ⟨⟨_,rfl,by rw [ByteArray.size_append];have e1:ByteArray.size ⟨#[120]⟩=1:=rfl;omega⟩,H2.out.later hb3,HB2.out.later hb3⟩
 · clear h0 UQ
   have hA:Below w1.heap.size w1 (w1.alloc (.cells #[.string ⟨#[97]⟩,.string ⟨#[98]⟩,.string ⟨#[103,111,110,101]⟩] 9)):=bA;have hq1:=H1.out.lt
   go_wp2_with fail
   refine (K6 (w1.alloc (.cells #[.string ⟨#[97]⟩,.string ⟨#[98]⟩,.string ⟨#[103,111,110,101]⟩] 9)) q (P+1) 3 O0 O0 O0 (H1.out.later hA)).mono ?_;rintro e w2 ⟨⟨r2,rfl,h20,bZ⟩,h2,ho2⟩;have H2:=Q0 h2;have HB2:=Q0 ((HB1.out.later hA).trans ho2.but);have d0:w2.cell? ⟨w1.heap.size,0,none⟩=some (.string ⟨#[97]⟩):=by rw [ho2.cell X3];simp
   have d1:w2.cell? ⟨w1.heap.size,1,none⟩=some (.string ⟨#[98]⟩):=by rw [ho2.cell X3];simp
   have d2:w2.cell? ⟨w1.heap.size,2,none⟩=some (.string ⟨#[103,111,110,101]⟩):=by rw [ho2.cell X3];simp
   clear h2 ho2 hA;obtain rfl | rfl | rfl:r2=0\/r2=1\/r2=2:=O0
   all_goals
    go_wp2;go_ret;exact ⟨⟨_,rfl,J3⟩,H2.out,HB2.out⟩
 · clear h0 UQ
   go_wp2;go_ret;exact ⟨⟨_,rfl,J3⟩,H1.out.mono O0,HB1.out⟩
 · clear h0 UQ
   go_wp2_with fail
   refine (K6 w1 q (P+1) 9 O0 O0 O0 H1.out).mono ?_;rintro e w2 ⟨⟨r2,rfl,h20,bZ⟩,h2,ho2⟩;have H2:=Q0 h2;have HB2:=Q0 (HB1.out.trans ho2.but);clear h2 ho2;obtain ⟨m,rfl⟩:=Int.eq_ofNat_of_zero_le h20;have hm:m<100:=O0;have hdl:(K3 (Lib.decDigits m)).size<=2:=by rw [Y2];exact Da m hm
   go_wp2_with fail
   refine (Np m w2 hm).mono ?_;rintro e w3 ⟨rfl,hb3⟩;go_wp2;go_ret;exact ⟨⟨_,rfl,by rw [ByteArray.size_append];have e1:ByteArray.size ⟨#[118]⟩=1:=rfl;omega⟩,H2.out.later hb3,HB2.out.later hb3⟩
 · clear h0 UQ
   go_wp2_with fail
   refine (K6 w1 q (P+1) 9 O0 O0 O0 H1.out).mono ?_;rintro e w2 ⟨⟨r2,rfl,h20,bZ⟩,h2,ho2⟩;have H2:=Q0 h2;have HB2:=Q0 (HB1.out.trans ho2.but);clear h2 ho2;obtain ⟨m,rfl⟩:=Int.eq_ofNat_of_zero_le h20;have hm:m<100:=O0;have hdl:(K3 (Lib.decDigits m)).size<=2:=by rw [Y2];exact Da m hm
   go_wp2_with fail
   refine (Np m w2 hm).mono ?_;rintro e w3 ⟨rfl,hb3⟩;go_wp2;go_ret;exact ⟨⟨_,rfl,by rw [ByteArray.size_append];have e1:ByteArray.size ⟨#[118]⟩=1:=rfl;omega⟩,H2.out.later hb3,HB2.out.later hb3⟩
 · clear h0 UQ
   go_wp2_with fail
   refine (K6 w1 q (P+1) 9 O0 O0 O0 H1.out).mono ?_;rintro e w2 ⟨⟨r2,rfl,h20,bZ⟩,h2,ho2⟩;have H2:=Q0 h2;have HB2:=Q0 (HB1.out.trans ho2.but);clear h2 ho2;obtain ⟨m,rfl⟩:=Int.eq_ofNat_of_zero_le h20;have hm:m<100:=O0;have hdl:(K3 (Lib.decDigits m)).size<=2:=by rw [Y2];exact Da m hm
   go_wp2_with fail
   refine (Np m w2 hm).mono ?_;rintro e w3 ⟨rfl,hb3⟩;go_wp2;go_ret;exact ⟨⟨_,rfl,by rw [ByteArray.size_append];have e1:ByteArray.size ⟨#[118]⟩=1:=rfl;omega⟩,H2.out.later hb3,HB2.out.later hb3⟩
 · clear h0 UQ
   go_wp2_with fail
   refine (K6 w1 q (P+1) 9 O0 O0 O0 H1.out).mono ?_;rintro e w2 ⟨⟨r2,rfl,h20,bZ⟩,h2,ho2⟩;have H2:=Q0 h2;have HB2:=Q0 (HB1.out.trans ho2.but);clear h2 ho2;obtain ⟨m,rfl⟩:=Int.eq_ofNat_of_zero_le h20;have hm:m<100:=O0;have hdl:(K3 (Lib.decDigits m)).size<=2:=by rw [Y2];exact Da m hm
   go_wp2_with fail
   refine (Np m w2 hm).mono ?_;rintro e w3 ⟨rfl,hb3⟩;go_wp2;go_ret;exact ⟨⟨_,rfl,by rw [ByteArray.size_append];have e1:ByteArray.size ⟨#[118]⟩=1:=rfl;omega⟩,H2.out.later hb3,HB2.out.later hb3⟩
 · clear h0 UQ
   go_wp2;go_ret;exact ⟨⟨_,rfl,J3⟩,H1.out.mono O0,HB1.out⟩
 · clear h0 UQ
   go_wp2;go_ret;exact ⟨⟨_,rfl,J3⟩,H1.out.mono O0,HB1.out⟩
 · clear h0 UQ
   go_wp2;go_ret;exact ⟨⟨_,rfl,J3⟩,H1.out.mono O0,HB1.out⟩
 · clear h0 UQ
   go_wp2_with fail
   refine (K6 w1 q (P+1) 9 O0 O0 O0 H1.out).mono ?_;rintro e w2 ⟨⟨r2,rfl,h20,bZ⟩,h2,ho2⟩;have H2:=Q0 h2;have HB2:=Q0 (HB1.out.trans ho2.but);clear h2 ho2;obtain ⟨m,rfl⟩:=Int.eq_ofNat_of_zero_le h20;have hm:m<100:=O0;have hdl:(K3 (Lib.decDigits m)).size<=2:=by rw [Y2];exact Da m hm
   go_wp2_with fail
   refine (Np m w2 hm).mono ?_;rintro e w3 ⟨rfl,hb3⟩;go_wp2;go_ret;exact ⟨⟨_,rfl,by rw [ByteArray.size_append];have e1:ByteArray.size ⟨#[118]⟩=1:=rfl;omega⟩,H2.out.later hb3,HB2.out.later hb3⟩
end Go.Proofs.YtdpoaadafcaffaaGreatDoor
