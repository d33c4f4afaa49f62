import Derived.Test.YthjhakdpikdoeaaGreatDoorZ21
import Derived.Laws.Bits64
import Derived.Maps.AppendAt
set_option linter.unusedVariables false
set_option maxHeartbeats 8000000
set_option maxRecDepth 100000
set_option linter.unusedSimpArgs false
namespace Go.Proofs.YthjhakdpikdoeaaGreatDoor
open Proofs.Tryz
open Go.RowKit
theorem xor_nonneg (x y:Int) (hx:0<=x) (hx1:x<4294967296) (hy:0<=y) (hy1:y<4294967296):0<=bits .xor .i64 x y/\bits .xor .i64 x y<4294967296:=by
 obtain ⟨a,rfl⟩:=Int.eq_ofNat_of_zero_le hx;obtain ⟨b,rfl⟩:=Int.eq_ofNat_of_zero_le hy;have ha:a<4294967296:=om_;have hb:b<4294967296:=om_;have hxor:a ^^^ b<2 ^ 32:=Nat.xor_lt_two_pow om_ om_;have h1:(BitVec.ofInt 64 (a:Int)).toNat=a:=by
  rw [BitVec.ofInt_natCast,BitVec.toNat_ofNat];exact Nat.mod_eq_of_lt om_
 have h2:(BitVec.ofInt 64 (b:Int)).toNat=b:=by
  rw [BitVec.ofInt_natCast,BitVec.toNat_ofNat];exact Nat.mod_eq_of_lt om_
 have e:bits .xor .i64 (a:Int) (b:Int)=IntKind.i64.wrap ((BitVec.ofInt 64 (a:Int) ^^^ BitVec.ofInt 64 (b:Int)).toNat:Int):=rfl;rw [e,BitVec.toNat_xor,h1,h2,IntKind.wrap_i64];omega
theorem emod_in {x n:Int} (hn:1<=n):0<=x % n/\x % n<n:=⟨Int.emod_nonneg _ om_,Int.emod_lt_of_pos _ om_⟩
theorem pick_in (w:World) (q b off L cap p:Nat) (n:Int) (hn1:1<=n) (hn2:n<=1000000) (hp:p<=1000000)
 (c0:w.cell? ⟨q,0,none⟩=some (.slice (some ⟨b,off,none⟩) L cap)) (c1:w.cell? ⟨q,1,none⟩=some (.int .i64 p)) (fz:w.frozen? ⟨q,1,none⟩=false)
 (hl:L<=2000) (hlt:p<L) (z1:Int) (hz1:0<=z1/\z1<=255) (hc1:w.cell? ⟨b,off+p,none⟩=some (.int .u8 z1)) (hbq:b≠q):
 Calls prog 18 #[.pointer (some ⟨q,0,none⟩),.int .i64 n] w fun e w'=>(∃ r:Int,e=.returned (.int .i64 r)/\0<=r/\r<n)/\∃ nq,w'=(w.setCell ⟨q,1,none⟩ (.int .i64 (p+1))).drewN nq:=by
 have hL0:¬ L=0:=om_;have hne:((L:Int)==0)=false:=by simp only [beq_eq_false_iff_ne];omega
 go_enter func18,ntmps18;go_wp2;go_ret;exact ⟨⟨_,rfl,emod_in hn1⟩,0,rfl⟩
theorem pick_nil (w:World) (q cap p:Nat) (a:Option Addr) (n:Int) (hn1:1<=n) (hn2:n<=1000000) (hp:p<=1000000)
 (c0:w.cell? ⟨q,0,none⟩=some (.slice a 0 cap)) (c1:w.cell? ⟨q,1,none⟩=some (.int .i64 p)) (fz:w.frozen? ⟨q,1,none⟩=false):
 Calls prog 18 #[.pointer (some ⟨q,0,none⟩),.int .i64 n] w fun e w'=>(∃ r:Int,e=.returned (.int .i64 r)/\0<=r/\r<n)/\∃ nq,w'=(w.setCell ⟨q,1,none⟩ (.int .i64 (p+1))).drewN nq:=by
 go_enter func18,ntmps18;go_wp2;go_ret;exact ⟨⟨0,rfl,om_,om_⟩,0,rfl⟩
theorem pick_out (w:World) (q:Nat) (b off:Nat) (L:Nat) (cap:Nat) (p:Nat) (n:Int) (hn1:1<=n) (hn2:n<=1000000) (hp:p<=1000000)
 (c0:w.cell? ⟨q,0,none⟩=some (.slice (some ⟨b,off,none⟩) L cap)) (c1:w.cell? ⟨q,1,none⟩=some (.int .i64 p)) (fz:w.frozen? ⟨q,1,none⟩=false)
 (hl:L<=2000) (h0:0<L) (hlt:L<=p) (z1 z2:Int) (hz1:0<=z1/\z1<=255) (hz2:0<=z2/\z2<=255)
 (hc1:w.cell? ⟨b,off+p % L,none⟩=some (.int .u8 z1)) (hc2:w.cell? ⟨b,off+(p*7+3) % L,none⟩=some (.int .u8 z2)) (hbq:b≠q):
 Calls prog 18 #[.pointer (some ⟨q,0,none⟩),.int .i64 n] w fun e w'=>(∃ r:Int,e=.returned (.int .i64 r)/\0<=r/\r<n)/\∃ nq,w'=(w.setCell ⟨q,1,none⟩ (.int .i64 (p+1))).drewN nq:=by
 have hL0:¬ L=0:=om_;have hne:((L:Int)==0)=false:=by simp only [beq_eq_false_iff_ne];omega
 have m1:(0:Int)<=(p:Int) % (L:Int):=Int.emod_nonneg _ om_;have m2:(p:Int) % (L:Int)<(L:Int):=Int.emod_lt_of_pos _ om_;have m3:(0:Int)<=((p:Int)*7+3) % (L:Int):=Int.emod_nonneg _ om_;have m4:((p:Int)*7+3) % (L:Int)<(L:Int):=Int.emod_lt_of_pos _ om_;have d1:(0:Int)<=(p:Int) / (L:Int):=Int.ediv_nonneg om_ om_;have d2:(p:Int) / (L:Int)<=(p:Int):=Int.ediv_le_self _ om_;have hc1':w.cell? ⟨b,off+((p:Int) % (L:Int)).toNat,none⟩=some (.int .u8 z1):=by
  have:((p:Int) % (L:Int)).toNat=p % L:=om_;rw [this];exact hc1
 have hc2':w.cell? ⟨b,off+(((p:Int)*7+3) % (L:Int)).toNat,none⟩=some (.int .u8 z2):=by
  have:(((p:Int)*7+3) % (L:Int)).toNat=(p*7+3) % L:=by
   have e:((p:Int)*7+3) % (L:Int)=(((p*7+3) % L:Nat):Int):=sm_;rw [e];rfl
  rw [this];exact hc2
 go_enter func18,ntmps18
 go_wp2_with fail
 refine wp_region_quiet_lit kr_ kr_ ?_
 repeat (any_goals (first | go_big_quiet_step (fail) | quiet_step (fail)))
 all_goals (refine wpQuiet_nil ?_;intro _ hw';obtain ⟨nq,hw''⟩:=hw';subst hw'')
 have hx:=xor_nonneg (z1*131+z2*1117+p*29+(p:Int) / L*53) ((z1*131+z2*1117+p*29+(p:Int) / L*53) / 64) om_ om_ om_ om_
 all_goals go_wp2
 go_ret;exact ⟨⟨_,rfl,emod_in hn1⟩,nq,rfl⟩
structure OnlyAt (q:Nat) (w w':World):Prop where
 os:w'.os=w.os
 tape:w'.tape=w.tape
 output:w'.output=w.output
 size:w'.heap.size=w.heap.size
 block:∀ k,k≠q->w'.heap[k]?=w.heap[k]?
theorem OnlyAt.cell {q:Nat} {w w':World} (h:OnlyAt q w w') {p:Addr} (hp:p.block≠q):w'.cell? p=w.cell? p:=World.cell?_of_block (w:=w) (h.block p.block hp)
theorem OnlyAt.below {q B:Nat} {w w':World} (h:OnlyAt q w w') (hB:B<=q):Below B w w':=⟨h.os,h.tape,h.output,by rw [h.size];exact Nat.le_refl _,fun k hk=>h.block k om_⟩
theorem onlyAt_step (w:World) (q j:Nat) (v:Value) (nq:Nat):OnlyAt q w ((w.setCell ⟨q,j,none⟩ v).drewN nq):=
 ⟨rfl,rfl,rfl,sm_,fun k hk=>Below.heap_setCell w ⟨q,j,none⟩ v k hk⟩
def RdAt (w:World) (q p:Nat):Prop:=
 ∃ (a:Option Addr) (L cap:Nat),w.cell? ⟨q,0,none⟩=some (.slice a L cap)/\w.cell? ⟨q,1,none⟩=some (.int .i64 p)/\w.frozen? ⟨q,1,none⟩=false/\(L<=2000/\∃ y,w.heap[q]?=some (.cells #[.slice a L cap,y] 77 (0,0)))/\
  (L=0\/∃ b off,a=some ⟨b,off,none⟩/\b<q/\∀ i,i<L->∃ z:Int,(0<=z/\z<=255)/\w.cell? ⟨b,off+i,none⟩=some (.int .u8 z))
theorem cell_block {w:World} {a:Addr} {v:Value} (h:w.cell? a=some v):a.block<w.heap.size:=by
 rcases Nat.lt_or_ge a.block w.heap.size with h' | h'
 · exact h'
 · simp [World.cell?,Array.getElem?_eq_none h'] at h
theorem RdAt.lt {w:World} {q p:Nat} (h:RdAt w q p):q<w.heap.size:=by
 obtain ⟨a,L,cap,c0,_⟩:=h;exact cell_block c0
theorem RdAt.later {w w':World} {q p B:Nat} (h:RdAt w q p) (hb:Below B w w') (hq:q<B):RdAt w' q p:=by
 obtain ⟨a,L,cap,c0,c1,fz,hl,hr⟩:=h;refine ⟨a,L,cap,by rw [hb.cell (by exact hq)];exact c0,by rw [hb.cell (by exact hq)];exact c1,by rw [hb.frozen (by exact hq)];exact fz,⟨hl.1,hl.2.imp fun y h=>(hb.block q hq).trans h⟩,?_⟩;rcases hr with h0 | ⟨b,off,ha,hbq,hc⟩
 · exact .inl h0
 · refine .inr ⟨b,off,ha,hbq,fun i hi=>?_⟩
   obtain ⟨z,hz,hcz⟩:=hc i hi;exact ⟨z,hz,by rw [hb.cell (by exact Nat.lt_trans hbq hq)];exact hcz⟩
theorem RdAt.step {w:World} {q p:Nat} (h:RdAt w q p) (nq:Nat):RdAt ((w.setCell ⟨q,1,none⟩ (.int .i64 ((p:Int)+1))).drewN nq) q (p+1):=by
 obtain ⟨a,L,cap,c0,c1,fz,hl,hr⟩:=h;refine ⟨a,L,cap,?_,?_,?_,⟨hl.1,.int .i64 ((p:Int)+1),by obtain ⟨y,h⟩:=hl.2;exact heap_setCell_same w q 1 _ 77 _ h⟩,?_⟩
 · show (w.setCell _ _).cell? _=_
   rw [<- c0];exact World.cell?_setCell_other _ _ _ _ sm_
 · show (w.setCell _ _).cell? _=_
   rw [World.cell?_setCell_same _ _ _ c1];simp
 · show (w.setCell _ _).frozen? _=_
   rw [<- fz];simp
 · rcases hr with h0 | ⟨b,off,ha,hbq,hc⟩
   · exact .inl h0
   · refine .inr ⟨b,off,ha,hbq,fun i hi=>?_⟩
     obtain ⟨z,hz,hcz⟩:=hc i hi;refine ⟨z,hz,?_⟩;show (w.setCell _ _).cell? _=_;rw [<- hcz];exact World.cell?_setCell_other _ _ _ _ (by intro h;injection h with h1 _;omega)
theorem pick (w:World) (q p:Nat) (n:Int) (hn1:1<=n) (hn2:n<=1000000) (hp:p<=1000000) (hr:RdAt w q p):
 Calls prog 18 #[.pointer (some ⟨q,0,none⟩),.int .i64 n] w fun e w'=>(∃ r:Int,e=.returned (.int .i64 r)/\0<=r/\r<n)/\RdAt w' q (p+1)/\OnlyAt q w w':=by
 have h:Calls prog 18 #[.pointer (some ⟨q,0,none⟩),.int .i64 n] w fun e w'=>(∃ r:Int,e=.returned (.int .i64 r)/\0<=r/\r<n)/\∃ nq,w'=(w.setCell ⟨q,1,none⟩ (.int .i64 (p+1))).drewN nq:=by
  obtain ⟨a,L,cap,c0,c1,fz,hl,hrow⟩:=hr;rcases hrow with h0 | ⟨b,off,rfl,hbq,hc⟩
  · subst h0
    exact pick_nil w q cap p a n hn1 hn2 hp c0 c1 fz
  · rcases Nat.lt_or_ge p L with hlt | hge
    · obtain ⟨z,hz,hcz⟩:=hc p hlt
      exact pick_in w q b off L cap p n hn1 hn2 hp c0 c1 fz hl.1 hlt z hz hcz om_
    · rcases Nat.eq_zero_or_pos L with h0 | h0
      · subst h0
        exact pick_nil w q cap p _ n hn1 hn2 hp c0 c1 fz
      · obtain ⟨z1,hz1,hc1⟩:=hc (p % L) (Nat.mod_lt _ h0)
        obtain ⟨z2,hz2,hc2⟩:=hc ((p*7+3) % L) (Nat.mod_lt _ h0);exact pick_out w q b off L cap p n hn1 hn2 hp c0 c1 fz hl.1 h0 hge z1 z2 hz1 hz2 hc1 hc2 om_
 refine h.mono ?_;rintro e w' ⟨h1,nq,rfl⟩;exact ⟨h1,hr.step nq,onlyAt_step _ _ _ _ _⟩
def BytesAt (w:World) (a:Option Addr) (L:Nat):Prop:=
 L=0\/∃ b off,a=some ⟨b,off,none⟩/\∀ i,i<L->∃ z:Int,(0<=z/\z<=255)/\w.cell? ⟨b,off+i,none⟩=some (.int .u8 z)
theorem rd_open {w:World} {a:Option Addr} {L cap:Nat} (h:BytesAt w a L) (hL:L<=2000):RdAt (w.alloc (.cells #[.slice a L cap,.int .i64 0] 77)) w.heap.size 0:=by
 refine ⟨a,L,cap,sm_,sm_,sm_,⟨hL,_,heap_alloc_new w _⟩,?_⟩;rcases h with h | ⟨b,off,ha,hc⟩
 · exact .inl h
 · rcases Nat.eq_zero_or_pos L with h0 | h0
   · exact .inl h0
   · have hb:b<w.heap.size:=by
      obtain ⟨z,_,hz⟩:=hc 0 h0;exact cell_block hz
     refine .inr ⟨b,off,ha,hb,fun i hi=>?_⟩;obtain ⟨z,hz,hcz⟩:=hc i hi;exact ⟨z,hz,by rw [((Below.refl w.heap.size w).alloc lr_ _).cell (by exact hb)];exact hcz⟩
theorem c14 (a:Option Addr) (L cap:Nat) (w:World) (hL:L<=1048576) (hcap:L<=cap) (h:BytesAt w a L):
 Calls prog 14 #[.slice a L cap] w fun e w'=>e=.returned (.pointer (some ⟨w.heap.size,0,none⟩))/\RdAt w' w.heap.size 0/\Below w.heap.size w w'/\w'.heap.size=w.heap.size+1:=by
 by_cases h2:2000<L
 · have HR:Hid (RdAt (w.alloc (.cells #[.slice a 2000 cap,.int .i64 0] 77)) w.heap.size 0):=by
    refine rd_open ?_ lr_;rcases h with h | ⟨b,off,ha,hc⟩
    · omega
    · exact .inr ⟨b,off,ha,fun i hi=>hc i om_⟩
   rcases h with h | ⟨b,off,rfl,hc⟩
   · omega
   clear hc;go_enter func14,ntmps14;go_wp2;go_ret;exact ⟨rfl,HR.out,bA,sm_⟩
 · have HR:Hid (RdAt (w.alloc (.cells #[.slice a L cap,.int .i64 0] 77)) w.heap.size 0):=rd_open h om_
   clear h;go_enter func14,ntmps14;go_wp2;go_ret;exact ⟨rfl,HR.out,bA,sm_⟩
def RdTo (w:World) (q P:Nat):Prop:=∃ p,p<=P/\RdAt w q p
theorem RdTo.lt {w:World} {q P:Nat} (h:RdTo w q P):q<w.heap.size:=by obtain ⟨p,_,h⟩:=h;exact h.lt
theorem RdTo.mono {w:World} {q P P':Nat} (h:RdTo w q P) (hp:P<=P'):RdTo w q P':=by obtain ⟨p,h1,h2⟩:=h;exact ⟨p,om_,h2⟩
theorem RdTo.later {w w':World} {q P:Nat} (h:RdTo w q P) (hb:Below w.heap.size w w'):RdTo w' q P:=by obtain ⟨p,h1,h2⟩:=h;exact ⟨p,h1,h2.later hb h2.lt⟩
theorem OnlyAt.but {q:Nat} {w w':World} (h:OnlyAt q w w'):But q w w':=⟨h.os,h.tape,h.output,by rw [h.size];exact Nat.le_refl _,fun k _ hne=>h.block k hne⟩
theorem But.later {q:Nat} {w w' u:World} (h:But q w w') (hb:Below w'.heap.size w' u):But q w u:=h.trans (But.of_below hb)
theorem pickT (w:World) (q P:Nat) (n:Int) (hn1:1<=n) (hn2:n<=1000000) (hp:P<=1000000) (hr:RdTo w q P):
 Calls prog 18 #[.pointer (some ⟨q,0,none⟩),.int .i64 n] w fun e w'=>(∃ r:Int,e=.returned (.int .i64 r)/\0<=r/\r<n)/\RdTo w' q (P+1)/\OnlyAt q w w':=by
 obtain ⟨p,h1,h2⟩:=hr;refine (pick w q p n hn1 hn2 om_ h2).mono ?_;rintro e w' ⟨ha,hb,hc⟩;exact ⟨ha,⟨p+1,om_,hb⟩,hc⟩
theorem c47 (op:Int) (w:World):
 Calls prog 47 #[.int .i64 op] w fun e w'=>e=.returned (.agg #[.int .i64 op,.string ⟨#[]⟩,.int .i64 0])/\Below w.heap.size w w':=by
 go_enter func47,ntmps47;go_wp2;refine bodyPost_ret (v:=.agg #[.int .i64 op,.string ⟨#[]⟩,.int .i64 0]) (by simp [results,Tryz.results47,go_sem]) rfl ⟨rfl,?_⟩;exact bA
theorem c80 (op:Int) (s:ByteArray) (w:World):
 Calls prog 80 #[.int .i64 op,.string s] w fun e w'=>e=.returned (.agg #[.int .i64 op,.string s,.int .i64 0])/\Below w.heap.size w w':=by
 go_enter func80,ntmps80;go_wp2;refine bodyPost_ret (v:=.agg #[.int .i64 op,.string s,.int .i64 0]) (by simp [results,Tryz.results80,go_sem]) rfl ⟨rfl,?_⟩;exact bA
theorem c42 (q P:Nat) (w:World) (hp:P<=100000) (hr:RdTo w q P):
 Calls prog 42 #[.pointer (some ⟨q,0,none⟩)] w fun e w'=>(∃ x:ByteArray,e=.returned (.string x)/\x.size<=20)/\RdTo w' q (P+2)/\But q w w':=by
 have HR:Hid (RdTo w q P):=hr;clear hr;go_enter func42,ntmps42
 go_wp2_with fail
 refine (pickT w q P 13 om_ om_ om_ HR.out).mono ?_;rintro e w1 ⟨⟨r,rfl,h0,h13⟩,h1,ho⟩;have H1:Hid (RdTo w1 q (P+1)):=h1;have HB1:Hid (But q w w1):=ho.but;clear h1 ho;obtain rfl | rfl | rfl | rfl | rfl | rfl | rfl | rfl | rfl | rfl | rfl | rfl | rfl:r=0\/r=1\/r=2\/r=3\/r=4\/r=5\/r=6\/r=7\/r=8\/r=9\/r=10\/r=11\/r=12:=om_
 · clear h0 h13
   go_wp2;go_ret;exact ⟨⟨_,rfl,dc_⟩,H1.out.mono om_,HB1.out⟩
 · clear h0 h13
   go_wp2;go_ret;exact ⟨⟨_,rfl,dc_⟩,H1.out.mono om_,HB1.out⟩
 · clear h0 h13
   go_wp2_with fail
   refine (pickT w1 q (P+1) 5 om_ om_ om_ H1.out).mono ?_;rintro e w2 ⟨⟨r2,rfl,h20,h2n⟩,h2,ho2⟩;have H2:Hid (RdTo w2 q (P+1+1)):=h2;have HB2:Hid (But q w w2):=HB1.out.trans ho2.but;clear h2 ho2;obtain ⟨m,rfl⟩:=Int.eq_ofNat_of_zero_le h20;have hm:m<100:=om_;have hdl:(ofL (Lib.decDigits m)).size<=2:=by rw [ofL_size];exact decLen m hm
   go_wp2_with fail
   refine (c46 m w2 hm).mono ?_;rintro e w3 ⟨rfl,hb3⟩;go_wp2;go_ret;exact ⟨⟨_,rfl,by rw [ByteArray.size_append];have e1:ByteArray.size ⟨#[120]⟩=1:=rfl;omega⟩,H2.out.later hb3,HB2.out.later hb3⟩
 · clear h0 h13
   have hA:Below w1.heap.size w1 (w1.alloc (.cells #[.string ⟨#[97]⟩,.string ⟨#[98]⟩,.string ⟨#[103,111,110,101]⟩] 9)):=bA;have hq1:q<w1.heap.size:=H1.out.lt
   go_wp2_with fail
   refine (pickT (w1.alloc (.cells #[.string ⟨#[97]⟩,.string ⟨#[98]⟩,.string ⟨#[103,111,110,101]⟩] 9)) q (P+1) 3 om_ om_ om_ (H1.out.later hA)).mono ?_;rintro e w2 ⟨⟨r2,rfl,h20,h2n⟩,h2,ho2⟩;have H2:Hid (RdTo w2 q (P+1+1)):=h2;have HB2:Hid (But q w w2):=(HB1.out.later hA).trans ho2.but;have d0:w2.cell? ⟨w1.heap.size,0,none⟩=some (.string ⟨#[97]⟩):=by rw [ho2.cell so_];simp
   have d1:w2.cell? ⟨w1.heap.size,1,none⟩=some (.string ⟨#[98]⟩):=by rw [ho2.cell so_];simp
   have d2:w2.cell? ⟨w1.heap.size,2,none⟩=some (.string ⟨#[103,111,110,101]⟩):=by rw [ho2.cell so_];simp
   clear h2 ho2 hA;obtain rfl | rfl | rfl:r2=0\/r2=1\/r2=2:=om_
   all_goals
    go_wp2;go_ret;exact ⟨⟨_,rfl,dc_⟩,H2.out,HB2.out⟩
 · clear h0 h13
   go_wp2;go_ret;exact ⟨⟨_,rfl,dc_⟩,H1.out.mono om_,HB1.out⟩
 · clear h0 h13
   go_wp2_with fail
   refine (pickT w1 q (P+1) 9 om_ om_ om_ H1.out).mono ?_;rintro e w2 ⟨⟨r2,rfl,h20,h2n⟩,h2,ho2⟩;have H2:Hid (RdTo w2 q (P+1+1)):=h2;have HB2:Hid (But q w w2):=HB1.out.trans ho2.but;clear h2 ho2;obtain ⟨m,rfl⟩:=Int.eq_ofNat_of_zero_le h20;have hm:m<100:=om_;have hdl:(ofL (Lib.decDigits m)).size<=2:=by rw [ofL_size];exact decLen m hm
   go_wp2_with fail
   refine (c46 m w2 hm).mono ?_;rintro e w3 ⟨rfl,hb3⟩;go_wp2;go_ret;exact ⟨⟨_,rfl,by rw [ByteArray.size_append];have e1:ByteArray.size ⟨#[118]⟩=1:=rfl;omega⟩,H2.out.later hb3,HB2.out.later hb3⟩
 · clear h0 h13
   go_wp2_with fail
   refine (pickT w1 q (P+1) 9 om_ om_ om_ H1.out).mono ?_;rintro e w2 ⟨⟨r2,rfl,h20,h2n⟩,h2,ho2⟩;have H2:Hid (RdTo w2 q (P+1+1)):=h2;have HB2:Hid (But q w w2):=HB1.out.trans ho2.but;clear h2 ho2;obtain ⟨m,rfl⟩:=Int.eq_ofNat_of_zero_le h20;have hm:m<100:=om_;have hdl:(ofL (Lib.decDigits m)).size<=2:=by rw [ofL_size];exact decLen m hm
   go_wp2_with fail
   refine (c46 m w2 hm).mono ?_;rintro e w3 ⟨rfl,hb3⟩;go_wp2;go_ret;exact ⟨⟨_,rfl,by rw [ByteArray.size_append];have e1:ByteArray.size ⟨#[118]⟩=1:=rfl;omega⟩,H2.out.later hb3,HB2.out.later hb3⟩
 · clear h0 h13
   go_wp2_with fail
   refine (pickT w1 q (P+1) 9 om_ om_ om_ H1.out).mono ?_;rintro e w2 ⟨⟨r2,rfl,h20,h2n⟩,h2,ho2⟩;have H2:Hid (RdTo w2 q (P+1+1)):=h2;have HB2:Hid (But q w w2):=HB1.out.trans ho2.but;clear h2 ho2;obtain ⟨m,rfl⟩:=Int.eq_ofNat_of_zero_le h20;have hm:m<100:=om_;have hdl:(ofL (Lib.decDigits m)).size<=2:=by rw [ofL_size];exact decLen m hm
   go_wp2_with fail
   refine (c46 m w2 hm).mono ?_;rintro e w3 ⟨rfl,hb3⟩;go_wp2;go_ret;exact ⟨⟨_,rfl,by rw [ByteArray.size_append];have e1:ByteArray.size ⟨#[118]⟩=1:=rfl;omega⟩,H2.out.later hb3,HB2.out.later hb3⟩
 · clear h0 h13
   go_wp2_with fail
   refine (pickT w1 q (P+1) 9 om_ om_ om_ H1.out).mono ?_;rintro e w2 ⟨⟨r2,rfl,h20,h2n⟩,h2,ho2⟩;have H2:Hid (RdTo w2 q (P+1+1)):=h2;have HB2:Hid (But q w w2):=HB1.out.trans ho2.but;clear h2 ho2;obtain ⟨m,rfl⟩:=Int.eq_ofNat_of_zero_le h20;have hm:m<100:=om_;have hdl:(ofL (Lib.decDigits m)).size<=2:=by rw [ofL_size];exact decLen m hm
   go_wp2_with fail
   refine (c46 m w2 hm).mono ?_;rintro e w3 ⟨rfl,hb3⟩;go_wp2;go_ret;exact ⟨⟨_,rfl,by rw [ByteArray.size_append];have e1:ByteArray.size ⟨#[118]⟩=1:=rfl;omega⟩,H2.out.later hb3,HB2.out.later hb3⟩
 · clear h0 h13
   go_wp2;go_ret;exact ⟨⟨_,rfl,dc_⟩,H1.out.mono om_,HB1.out⟩
 · clear h0 h13
   go_wp2;go_ret;exact ⟨⟨_,rfl,dc_⟩,H1.out.mono om_,HB1.out⟩
 · clear h0 h13
   go_wp2;go_ret;exact ⟨⟨_,rfl,dc_⟩,H1.out.mono om_,HB1.out⟩
 · clear h0 h13
   go_wp2_with fail
   refine (pickT w1 q (P+1) 9 om_ om_ om_ H1.out).mono ?_;rintro e w2 ⟨⟨r2,rfl,h20,h2n⟩,h2,ho2⟩;have H2:Hid (RdTo w2 q (P+1+1)):=h2;have HB2:Hid (But q w w2):=HB1.out.trans ho2.but;clear h2 ho2;obtain ⟨m,rfl⟩:=Int.eq_ofNat_of_zero_le h20;have hm:m<100:=om_;have hdl:(ofL (Lib.decDigits m)).size<=2:=by rw [ofL_size];exact decLen m hm
   go_wp2_with fail
   refine (c46 m w2 hm).mono ?_;rintro e w3 ⟨rfl,hb3⟩;go_wp2;go_ret;exact ⟨⟨_,rfl,by rw [ByteArray.size_append];have e1:ByteArray.size ⟨#[118]⟩=1:=rfl;omega⟩,H2.out.later hb3,HB2.out.later hb3⟩
end Go.Proofs.YthjhakdpikdoeaaGreatDoor
namespace Go.Proofs.YthjhakdpikdoeaaGreatDoor.M
open Proofs.Tryz
open Go.RowKit
variable {P:Prop} {x:L4}
theorem div_form (n:Int) (h:0<=n) (h1:n<=100000000):IntKind.i64.wrap (n.tdiv 10)=n / 10:=by
 rw [Int.tdiv_eq_ediv_of_nonneg h];simp [IntKind.wrap,IntKind.signed,IntKind.bits];omega
theorem ofL_snoc (l:List UInt8) (x:Int):ofL (l++[UInt8.ofNat x.toNat])=ofL l++strOfNums [x]:=by
 apply ByteArray.ext;simp [ofL,strOfNums]
theorem c46 (f:Nat):∀ (n:Int) (w:World),0<=n->n<=100000000->n.toNat<f->
 Calls prog 46 #[.int .i64 n] w fun e w'=>e=.returned (.string (ofL (dec n)))/\Below w.heap.size w w':=by
 induction f with
 | zero=>intro n w _ _ h;omega
 | succ f ih=>
  intro n w h0 h1 hf;have hcv:=conv1;have hcd:=convD;have hz:∀ y,(strOfNums [y]).size=1:=fun y=>strOfNums_size [y];by_cases h:n<10
  · go_enter func46,ntmps46
    go_wp2;go_ret;exact ⟨by rw [dec_lt n h];rfl,bA⟩
  have hq:(ofL (dec (n / 10))).size<=100000001:=by rw [ofL_size];exact dec_len _ om_ om_
  have H:Hid (∀ w,Calls prog 46 #[.int .i64 (IntKind.i64.wrap (n.tdiv 10))] w fun e w'=>e=.returned (.string (ofL (dec (n / 10))))/\Below w.heap.size w w'):=by
   rw [div_form n h0 h1];exact fun w=>ih (n / 10) w om_ om_ om_
  have HD:Hid (Ending.returned (.string (ofL (dec (n / 10))++strOfNums [48+n % 10]))=.returned (.string (ofL (dec n)))):=by
   rw [dec_ge n om_,ofL_snoc];rfl
  clear ih;go_enter func46,ntmps46
  go_wp2_with fail
  go_region_with (go_at_call 46;refine (H.out _).mono ?_;rintro e w1 ⟨rfl,hb1⟩;(try (have hcb:=convB hb1)))
  all_goals go_wp2
  all_goals go_ret
  all_goals refine ⟨?_,?_⟩
  all_goals first
   | exact HD.out
   | exact (((Below.refl w.heap.size w).drew).trans hb1).alloc hb1.size _
   | exact (((Below.refl w.heap.size w).alloc lr_ _).drew).trans (hb1.mono sm_)
theorem ret_int {k:IntKind} {a b:Int} (h:a=b):Ending.returned (.int k a)=.returned (.int k b):=by rw [h]
theorem c89 (s:ByteArray) (w:World) (hs:s.size<=1048700):
 Calls prog 89 #[.string s] w fun e w'=>e=.returned (.int .i64 (n29 s.data.toList))/\Below w.heap.size w w':=by
 by_cases h:1<=s.size/\s.size<=7;rotate_left
 · have hN:Hid (n29 s.data.toList=-1):=n29_len (by simpa using h)
   by_cases h1:1<=s.size
   all_goals
    go_enter func89,ntmps89;go_wp2
    all_goals go_ret
    all_goals exact ⟨ret_int hN.out.symm,Below.refl _ _⟩
 obtain ⟨h1,h2⟩:=h;go_enter func89,ntmps89;go_wp2;go_loop [3,4] (fun n i=>∃ k:Nat,k<=s.size/\i=.int .i64 k/\n=.int .i64 (val (s.data.toList.take k))/\0<=val (s.data.toList.take k)/\val (s.data.toList.take k)<=10000000/\Hid ((s.data.toList.take k).all isDig=true)) (fun _ i=>s.size - (intOf i).toNat)
 case atStart=>exact ⟨0,Nat.zero_le _,rfl,rfl,by simp [val],by simp [val],rfl⟩
 obtain ⟨k,hk,rfl,rfl,hv0,hv1,ha⟩:=hrel;by_cases hlt:k<s.size
 · by_cases hg:isDig s[k]=true
   · have hg':=(dig_iff _).1 hg
     have hw:=byte_sub _ hg';have ha':Hid ((s.data.toList.take (k+1)).all isDig=true):=all_take_snoc _ s k hlt ha.out hg;have hvs:Hid (val (s.data.toList.take (k+1))=val (s.data.toList.take k)*10+((s[k].toNat:Int) - 48)):=by
      rw [take_snoc s k hlt];exact val_snoc _ _
     have hb:Hid (val (s.data.toList.take (k+1))<=10000000):=val_seven _ ha'.out so_;clear hg;go_wp2
     go_round
     case rel=>exact ⟨k+1,om_,by go_num,by rw [hvs.out],by rw [hvs.out];omega,hb.out,ha'⟩
     case measure=>simp [intOf];omega
   have hN:Hid (n29 s.data.toList=-1):=n29_dig (all_false_at _ s k hlt (by simpa using hg));have hg':(s[k].toNat:Int)<48\/57<(s[k].toNat:Int):=by
    rcases Int.lt_or_le (s[k].toNat:Int) 48 with h | h
    · exact .inl h
    rcases Int.lt_or_le 57 (s[k].toNat:Int) with h' | h'
    · exact .inr h'
    exact absurd ((dig_iff _).2 ⟨h,h'⟩) hg
   clear hg;rcases hg' with hg | hg
   all_goals
    go_wp2
    all_goals go_ret
    all_goals exact ⟨ret_int hN.out.symm,Below.refl _ _⟩
 have hall:Hid (s.data.toList.all isDig=true):=all_take_size _ s k om_ ha.out;have hE:Hid (s.data.toList.take k=s.data.toList):=List.take_of_length_le so_
 go_wp2_with fail
 refine (c46 _ _ _ hv0 om_ (Nat.lt_succ_self _)).mono ?_;rintro e w1 ⟨rfl,hb1⟩;rw [hE.out];by_cases hd:dec (val s.data.toList)=s.data.toList
 · have hN:Hid (n29 s.data.toList=val s.data.toList):=n29_yes (by simpa using ⟨h1,h2⟩) hall.out hd
   have hne:((ofL (dec (val s.data.toList))).toList==s.toList)=true:=by
    rw [hd,ByteArray.toList_eq,ByteArray.toList_eq];simp [ofL]
   clear hd;go_wp2;go_ret;exact ⟨ret_int hN.out.symm,hb1⟩
 have hN:Hid (n29 s.data.toList=-1):=n29_dec hd;have hne:((ofL (dec (val s.data.toList))).toList==s.toList)=false:=by
  rw [ByteArray.toList_eq,ByteArray.toList_eq];simpa [ofL] using hd
 clear hd;go_wp2;go_ret;exact ⟨ret_int hN.out.symm,hb1⟩
theorem c85 (c:Int) (s:ByteArray) (w:World) (hs:s.size<=1048700):
 Calls prog 85 #[.agg #[.int .i64 c,.string s]] w fun e w'=>e=.returned (.bool (vr c s.data.toList))/\Below w.heap.size w w':=by
 have hlen:s.data.toList.length=s.size:=sm_;by_cases h300:300<s.size
 · have hV:Hid (vr c s.data.toList=false):=vr_long om_
   clear hlen;go_enter func85,ntmps85;go_wp2;go_ret;exact ⟨ret_bool (by rw [hV.out]),bA⟩
 by_cases h01:c=0\/c=1
 · have hV:Hid (vr c s.data.toList=true):=by unfold vr;rw [if_pos h01,hlen];simp [Hid];omega
   clear hlen;rcases h01 with rfl | rfl
   all_goals
    go_enter func85,ntmps85;go_wp2;go_ret;exact ⟨ret_bool (by rw [hV.out]),bA⟩
 by_cases h2:c=2
 · subst h2
   have hV:Hid (vr 2 s.data.toList=num40 s.data.toList):=rfl;clear hlen h01;go_enter func85,ntmps85
   go_wp2_with fail
   refine (c89 _ _ hs).mono ?_;rintro e w1 ⟨rfl,hb1⟩
   go_wp2_with fail
   refine (c30 _ _ _ _).mono ?_;rintro e w2 ⟨rfl,rfl⟩;go_wp2;go_ret;refine ⟨ret_bool (by rw [hV.out];rw [<- n29_num40];simp),bA.trans (hb1.mono sm_)⟩
 by_cases h3:c=3
 · subst h3
   have hV:Hid (vr 3 s.data.toList=s.toList.isEmpty):=by rw [ByteArray.toList_eq];rfl
   clear hlen h01 h2;go_enter func85,ntmps85;go_wp2;go_ret;exact ⟨ret_bool (by rw [hV.out]),bA⟩
 by_cases h4:c=4\/c=5\/c=7
 · have hV:Hid (vr c s.data.toList=nameOk s.data.toList):=by unfold vr;rw [if_neg h01,if_neg h2,if_neg h3,if_pos h4];rfl
   clear hlen h01 h2 h3;rcases h4 with rfl | rfl | rfl
   all_goals
    go_enter func85,ntmps85
    go_wp2_with fail
    refine (c63 _ _ hs).mono ?_;rintro e w1 ⟨rfl,rfl⟩;go_wp2;go_ret;exact ⟨ret_bool (by rw [hV.out]),bA⟩
 have hV:Hid (vr c s.data.toList=false):=by unfold vr;rw [if_neg h01,if_neg h2,if_neg h3,if_neg h4];rfl
 have e0:(c==0)=false:=so_;have e1:(c==1)=false:=so_;have e2:(c==2)=false:=so_;have e3:(c==3)=false:=so_;have e4:(c==4)=false:=so_;have e5:(c==5)=false:=so_;have e7:(c==7)=false:=so_;clear hlen h01 h2 h3 h4;go_enter func85,ntmps85;go_wp2;go_ret;exact ⟨ret_bool (by rw [hV.out]),bA⟩
def LkOk (x:L4):Prop:=nameOk x.nm.data.toList=true/\((x.has=true/\((x.cd=0/\x.tx=⟨#[]⟩)\/(x.cd=4/\x.tx=x.nm)))\/(x.has=false/\vr x.cd x.tx.data.toList=true))
def IsB (P:Prop) (e:Ending):Prop:=∃ r,e=.returned (.bool r)/\(r=true↔P)
theorem isB_no (h:¬ P):IsB P (.returned (.bool false)):=⟨false,rfl,⟨fun h=>absurd h Bool.false_ne_true,fun k=>absurd k h⟩⟩
theorem isB_yes (h:P):IsB P (.returned (.bool true)):=⟨true,rfl,⟨fun _=>h,fun _=>rfl⟩⟩
theorem ba_iff (x y:ByteArray):x.toList=y.toList↔x=y:=⟨fun h=>by
 rw [ByteArray.toList_eq,ByteArray.toList_eq] at h;exact ByteArray.ext (Array.toList_inj.1 h),fun h=>by rw [h]⟩
theorem ba_nil (x:ByteArray):x.toList=[]↔x=⟨#[]⟩:=by
 rw [ByteArray.toList_eq];exact ⟨fun h=>ByteArray.ext (Array.toList_inj.1 h),fun h=>by rw [h]⟩
theorem lk_name (h:nameOk x.nm.data.toList=false):¬ LkOk x:=fun k=>absurd (k.1.symm.trans h) dc_
theorem lk_ask (hn:nameOk x.nm.data.toList=true) (hh:x.has=false):LkOk x↔vr x.cd x.tx.data.toList=true:=by
 constructor
 · rintro ⟨_,⟨h,_⟩ | ⟨_,h⟩⟩
   · rw [hh] at h;cases h
   exact h
 exact fun h=>⟨hn,.inr ⟨hh,h⟩⟩
theorem lk_has (hn:nameOk x.nm.data.toList=true) (hh:x.has=true):LkOk x↔((x.cd=0/\x.tx.toList=[])\/(x.cd=4/\x.tx.toList=x.nm.toList)):=by
 rw [ba_nil,ba_iff];constructor
 · rintro ⟨_,⟨_,h⟩ | ⟨h,_⟩⟩
   · exact h
   rw [hh] at h;cases h
 exact fun h=>⟨hn,.inl ⟨hh,h⟩⟩
theorem c84 (x:L4) (w:World) (hs:x.le 1048600):
 Calls prog 84 #[.agg #[.bool x.has,.string x.nm,.int .i64 x.cd,.string x.tx]] w fun e w'=>IsB (LkOk x) e/\Below w.heap.size w w':=by
 obtain ⟨s1,s2⟩:=hs;have hB0:∀ o,Below w.heap.size w (w.alloc o):=fun o=>bA;cases hn:nameOk x.nm.data.toList
 · have HN:Hid (IsB (LkOk x) (.returned (.bool false))):=isB_no (lk_name hn)
   go_enter func84,ntmps84
   go_wp2_with fail
   refine (c63 x.nm _ om_).mono ?_;rintro e w1 ⟨rfl,hw⟩;obtain rfl:=hw.symm;rw [hn];go_wp2;go_ret;exact ⟨HN.out,hB0 _⟩
 cases hh:x.has
 · have HE:Hid (LkOk x↔vr x.cd x.tx.data.toList=true):=lk_ask hn hh
   go_enter func84,ntmps84
   go_wp2_with fail
   refine (c63 x.nm _ om_).mono ?_;rintro e w1 ⟨rfl,hw⟩;obtain rfl:=hw.symm;rw [hn]
   go_wp2_with fail
   refine (c85 x.cd x.tx _ om_).mono ?_;rintro e w2 ⟨rfl,hb2⟩;have hB2:Below w.heap.size w w2:=(hB0 _).trans (hb2.mono sm_);go_wp2;go_ret;exact ⟨⟨_,rfl,HE.out.symm⟩,hB2⟩
 have HE:Hid (LkOk x↔((x.cd=0/\x.tx.toList=[])\/(x.cd=4/\x.tx.toList=x.nm.toList))):=lk_has hn hh
 skip
 all_goals
  go_enter func84,ntmps84
  go_wp2_with fail
  refine (c63 x.nm _ om_).mono ?_;rintro e w1 ⟨rfl,hw⟩;obtain rfl:=hw.symm;rw [hn];go_wp2
  all_goals go_ret
  all_goals first
   | exact ⟨isB_yes (HE.out.2 (by simp [*])),hB0 _⟩
   | exact ⟨isB_no (fun h=>by have:=HE.out.1 h;simp [*] at this),hB0 _⟩
   | exact ⟨isB_yes (HE.out.2 (by simp [*])),(hB0 _).alloc sm_ _⟩
   | exact ⟨isB_no (fun h=>by have:=HE.out.1 h;simp [*] at this),(hB0 _).alloc sm_ _⟩
def LksOk (ls:List L4):Prop:=ls.length<=15/\∀ i,i<ls.length->LkOk (ls.getD i l4z)
theorem c56 (a:Option Addr) (cap:Nat) (ls:List L4) (w:World) (hl:ls.length<=1048576) (hs:∀ i,(ls.getD i l4z).le 1048576) (hat:LksAt w a ls):
 Calls prog 56 #[.slice a ls.length cap] w fun e w'=>IsB (LksOk ls) e/\Below w.heap.size w w':=by
 obtain ⟨b,off,hc⟩:=lks_some hat;have HC:Hid (ls=[]\/(a=some ⟨b,off,none⟩/\b<w.heap.size/\∀ i,i<ls.length->w.cell? ⟨b,off+i*4,none⟩=some (.bool (ls.getD i l4z).has)/\w.cell? ⟨b,off+i*4+1,none⟩=some (.string (ls.getD i l4z).nm)/\w.cell? ⟨b,off+i*4+2,none⟩=some (.int .i64 (ls.getD i l4z).cd)/\w.cell? ⟨b,off+i*4+3,none⟩=some (.string (ls.getD i l4z).tx))):=hc;have HS:Hid (∀ i,(ls.getD i l4z).le 1048576):=hs;clear hc hat hs;by_cases hbig:15<ls.length
 · have HN:Hid (IsB (LksOk ls) (.returned (.bool false))):=isB_no (fun h=>by have:=h.1;omega)
   go_enter func56,ntmps56;go_wp2;go_ret;exact ⟨HN.out,Below.refl _ _⟩
 go_enter func56,ntmps56
 go_wp2_with fail
 go_loopw [3] (fun vi wr=>∃ k:Nat,k<=ls.length/\vi=.int .i64 k/\Below w.heap.size w wr/\Hid (∀ j,j<k->LkOk (ls.getD j l4z))) (fun vi _=>ls.length - (intOf vi).toNat)
 case atStart=>exact ⟨0,Nat.zero_le _,rfl,Below.refl _ _,fun j h=>absurd h (Nat.not_lt_zero _)⟩
 obtain ⟨k,hk,rfl,hb,hdone⟩:=hrel;by_cases hlt:k<ls.length;rotate_left
 · have hyes:Hid (IsB (LksOk ls) (.returned (.bool true))):=isB_yes ⟨om_,fun j hj=>hdone.out j om_⟩
   go_wp2;go_ret;exact ⟨hyes.out,hb⟩
 rcases HC.out with hss | ⟨ha,hbw,hcell⟩
 · rw [hss] at hlt;exact absurd hlt (Nat.not_lt_zero _)
 subst ha;obtain ⟨g0,g1,g2,g3⟩:=hcell k hlt;have g0:=(hb.cell (p:=⟨b,off+k*4,none⟩) hbw).trans g0;have g1:=(hb.cell (p:=⟨b,off+k*4+1,none⟩) hbw).trans g1;have g2:=(hb.cell (p:=⟨b,off+k*4+2,none⟩) hbw).trans g2;have g3:=(hb.cell (p:=⟨b,off+k*4+3,none⟩) hbw).trans g3;have hxs:=HS.out k;have HN:Hid (¬ LkOk (ls.getD k l4z)->IsB (LksOk ls) (.returned (.bool false))):=fun h=>isB_no fun d=>h (d.2 k hlt);have HY:Hid (LkOk (ls.getD k l4z)->∀ j,j<k+1->LkOk (ls.getD j l4z)):=fun h j hj=>by
  rcases Nat.lt_or_ge j k with h1 | h1
  · exact hdone.out j h1
  obtain rfl:j=k:=om_;exact h
 generalize ls.getD k l4z=x at*;clear hcell
 go_wp2_with fail
 refine (c84 x wr ⟨by have:=hxs.1;omega,by have:=hxs.2;omega⟩).mono ?_;rintro e w1 ⟨⟨r,rfl,hr⟩,hb1⟩;have hB1:Below w.heap.size w w1:=bT hb hb1;cases r
 · have hno:Hid (IsB (LksOk ls) (.returned (.bool false))):=HN.out fun h=>absurd (hr.2 h) Bool.false_ne_true
   clear hr;go_wp2;go_ret;exact ⟨hno.out,hB1⟩
 have hyes:Hid (∀ j,j<k+1->LkOk (ls.getD j l4z)):=HY.out (hr.1 rfl);clear hr;go_wp2;go_roundw
 case rel=>exact ⟨k+1,om_,by go_num,hB1,hyes⟩
 case measure=>simp [intOf];omega
end Go.Proofs.YthjhakdpikdoeaaGreatDoor.M
namespace Go.Proofs.YthjhakdpikdoeaaGreatDoor.M
open Go.RowKit
theorem fill_eq (B:Nat) (vs:List Value):∀ (u:World) (j:Nat),fill u B j vs=u.setCells B j vs:=by
 induction vs with
 | nil=>intro u j;rfl
 | cons v vs ih=>intro u j;exact ih _ _
theorem adr_add (B o j:Nat):(⟨B,o,none⟩:Addr).add j=⟨B,o+j,none⟩:=by unfold Addr.add;split <;> simp_all
section
variable {P:Program}
theorem run_loadVar_blk (w:World) (B:Nat) (ty:TypeId) (cs:List Value) (d:TypeDesc) (hc:BlkAt w B cs)
 (hu:P.underlying ty=some d) (hd:(match d with | .struct _ | .array _ _=>true | _=>false)=true) (hi:(P.info? ty).map (·.size)=some cs.length):
 (loadVar ty ⟨B,0,none⟩).run P w=.ok (.agg cs.toArray) w:=by
 have hl:(loadCells ⟨B,0,none⟩ cs.length).run P w=.ok cs.toArray w:=
  run_loadCells_list (P:=P) w ⟨B,0,none⟩ cs (fun j v hv=>by rw [adr_add,Nat.zero_add];exact hc j v hv)
 cases hq:P.info? ty with
 | none=>simp [hq] at hi
 | some i=>
  have hs:i.size=cs.length:=by simpa [hq] using hi
  have hagg:(isAgg ty).run P w=.ok true w:=by
   unfold isAgg;rw [Sem.run_bind,run_underlying hu w];cases d <;> simp_all
  simp [loadVar,Sem.run_bind,hagg,sizeOf,typeInfo,hq,hs,hl]
theorem wpList_load_blk {ops:Array Oper} {rest:List Oper} {o:Oper} {a:Act} {w:World} {Q:Exit->Act->World->Prop} (hgd:o.guard=none) (ty:TypeId) (x:Operand) (ho:o.op=.load ty x)
 (B:Nat) (hx:a.eval x=.pointer (some ⟨B,0,none⟩)) (cs:List Value) (d:TypeDesc) (hc:BlkAt w B cs)
 (hu:P.underlying ty=some d) (hd:(match d with | .struct _ | .array _ _=>true | _=>false)=true) (hi:(P.info? ty).map (·.size)=some cs.length)
 (h:wpList P ops Q rest (a.put o.dst (.agg cs.toArray)) w):wpList P ops Q (o::rest) a w:=by
 refine wpList_plain hgd fun K hK=>?_;unfold Oper.wp execOp;simp only [ho,hx,Instr.loadAt,Instr.sureAddr,Sem.run_bind,Sem.run_pure,Result.andThen_ok,run_loadVar_blk w B ty cs d hc hu hd hi];exact hK _ _ h
theorem run_storeVar_blk (w:World) (B j:Nat) (ty:TypeId) (vs:List Value) (hc:∀ i,i<vs.length->(w.cell? ⟨B,j+i,none⟩).isSome=true) (hf:OpnAt w B) (h1:∀ v∈vs,v.oneCell'=true)
 (hi:(P.info? ty).map (·.size)=some vs.length):
 (storeVar ty ⟨B,j,none⟩ (.agg vs.toArray)).run P w=.ok () (fill w B j vs):=by
 have hs:=run_storeCells_cells (P:=P) B j vs 0 w (fun i h=>by simpa using hc i h) (fun i _=>hf _) h1;rw [Nat.add_zero,<- fill_eq] at hs
 cases hq:P.info? ty with
 | none=>simp [hq] at hi
 | some i=>
  have hz:i.size=vs.length:=by simpa [hq] using hi
  simp [storeVar,Value.cells,Sem.run_bind,sizeOf,typeInfo,hq,hz,hs]
theorem wpList_store_blk {ops:Array Oper} {rest:List Oper} {o:Oper} {a:Act} {w:World} {Q:Exit->Act->World->Prop} (hgd:o.guard=none) (ty:TypeId) (x y:Operand) (ho:o.op=.store ty x y)
 (B j:Nat) (hx:a.eval x=.pointer (some ⟨B,j,none⟩)) (vs:List Value) (hy:a.eval y=.agg vs.toArray) (hc:∀ i,i<vs.length->(w.cell? ⟨B,j+i,none⟩).isSome=true) (hf:OpnAt w B) (h1:∀ v∈vs,v.oneCell'=true)
 (hi:(P.info? ty).map (·.size)=some vs.length) (hdst:o.dst=none)
 (h:wpList P ops Q rest a (fill w B j vs)):wpList P ops Q (o::rest) a w:=by
 refine wpList_plain hgd fun K hK=>?_;unfold Oper.wp execOp;simp only [ho,hx,hy,Instr.storeAt,Instr.sureAddr,Sem.run_bind,Sem.run_pure,Result.andThen_ok,run_storeVar_blk w B j ty vs hc hf h1 hi]
 first
  | exact hK _ _ h
  | (simp only [Oper.upon];exact hK _ _ h)
  | (simp only [Oper.upon,hdst];exact hK _ _ h)
theorem results_blk {fn:Func} {p:Tmp} {ty:TypeId} (h:fn.results=#[.cell p ty]) (tmps:Array Value) (w:World) (B:Nat) (cs:List Value) (d:TypeDesc)
 (hp:tmps.getD p undef=.pointer (some ⟨B,0,none⟩)) (hc:BlkAt w B cs)
 (hu:P.underlying ty=some d) (hd:(match d with | .struct _ | .array _ _=>true | _=>false)=true) (hi:(P.info? ty).map (·.size)=some cs.length):
 (results fn tmps).run P w=.ok (.agg cs.toArray) w:=by
 have hp':tmps[p]?.getD undef=.pointer (some ⟨B,0,none⟩):=by simpa using hp
 simp [results,h,hp',asAddr,run_loadVar_blk w B ty cs d hc hu hd hi]
end
end Go.Proofs.YthjhakdpikdoeaaGreatDoor.M
namespace Go.Proofs.YthjhakdpikdoeaaGreatDoor
open Go.RowKit
def wpL (P:Program) (md:Region.Mode) (ops:Array Oper) (Q:Exit->Act->World->Prop) (S:World->Prop) (T:Nat):Nat->Array Bool->Act->World->Prop
 | 0,l,a,w=>Region.ready md ops l=[]/\Q .normal a w
 | n+1,l,a,w=>(Region.ready md ops l=[]->Q .normal a w)/\∀ i∈Region.ready md ops l,wpOp P ops Q i (fun a' w'=>(i≠T->S w')/\wpL P md ops Q S T n (l.setIfInBounds i true) a' w') a w
section
variable {P:Program} {ops:Array Oper} {Q:Exit->Act->World->Prop} {md:Region.Mode} {S:World->Prop} {T:Nat}
theorem wpL_any (n:Nat):∀ (l:Array Bool) (a:Act) (w:World),wpL P md ops Q S T n l a w->wpAny P md ops Q n l a w:=by
 induction n with
 | zero=>exact fun _ _ _ h=>h
 | succ n ih=>exact fun _ _ _ h=>⟨h.1,fun i hi=>wpOp_mono (fun a' w' h'=>ih _ a' w' h'.2) (h.2 i hi)⟩
def waitsT (md:Region.Mode) (ops:Array Oper) (T i:Nat):Bool:=(ops[T]?).any fun o=>o.after.any fun e=>Region.binds md e&&e.on==i
theorem not_yet {l:Array Bool} {T i:Nat} (hT:waitsT md ops T i=true) (hi:i∈Region.ready md ops l):T∉Region.ready md ops l:=fun h=>by
 obtain ⟨_,o,ho,hall⟩:=mem_ready.1 h;unfold waitsT at hT;rw [ho] at hT;simp only [Option.any_some,Array.any_eq_true] at hT;obtain ⟨k,hk,hb⟩:=hT;simp only [Bool.and_eq_true,beq_iff_eq] at hb;have h1:=hall _ (Array.getElem_mem hk) hb.1;have h0:=(mem_ready.1 hi).1;rw [hb.2] at h1;rcases Nat.lt_or_ge i l.size with h' | h'
 · simp [h'] at h0 h1;rw [h0] at h1;cases h1
 simp [Array.getElem?_eq_none h'] at h1
theorem wpL_first {i:Nat} {oi:Oper} {v:Value} (hi:ops[i]?=some oi) (hT:waitsT md ops T i=true) (hsel:∀ (j:Nat) (o:Oper) cs b,ops[j]?=some o->o.op≠.select cs b)
 (hQ:∀ c a w,Q (.panic c) (a.put oi.dst v) w->Q (.panic c) a w) (n:Nat):∀ (l:Array Bool) (a:Act) (w:World),
  (∀ j oj,ops[j]?=some oj->j≠i->l.getD j true=false->(∀ e∈oj.after,Region.binds md e=true->e.on≠i)->oi.apart ops oj=true)->
  i∈Region.ready md ops l->YieldsIf P ops S oi v a->S w->
  wpL P md ops Q S T n (l.setIfInBounds i true) (a.put oi.dst v) w->wpL P md ops Q S T (n+1) l a w:=by
 have hnx:∀ (l:Array Bool) j,i∈Region.ready md ops l->j∈Region.ready md ops l->j≠T:=fun l j h1 h2 e=>not_yet hT h1 (e▸h2)
 induction n with
 | zero=>
  refine fun l a w _ hr hy hS H=>⟨fun h=>absurd (h▸hr) List.not_mem_nil,fun j hj=>?_⟩;by_cases hji:j=i
  · subst hji;exact hy.wpOp hi hS ⟨fun _=>hS,H⟩
  exact absurd (H.1▸ready_mono hj hji) List.not_mem_nil
 | succ n ih=>
  refine fun l a w hfr hr hy hS H=>⟨fun h=>absurd (h▸hr) List.not_mem_nil,fun j hj=>?_⟩;by_cases hji:j=i
  · subst hji;exact hy.wpOp hi hS ⟨fun _=>hS,H⟩
  have hjT:=hnx l j hr hj;obtain ⟨hun,oj,hoj,hall⟩:=mem_ready.1 hj;have hnw:∀ e∈oj.after,Region.binds md e=true->e.on≠i:=fun e he hb heq=>by
   have h1:=hall e he hb;have h0:=(mem_ready.1 hr).1;rw [heq] at h1;rcases Nat.lt_or_ge i l.size with h' | h'
   · simp [h'] at h0 h1;rw [h0] at h1;cases h1
   simp [Array.getElem?_eq_none h'] at h1
  refine wpOp_mono (fun a' w' h=>?_) (wpOp_putIf hoj (hfr j oj hoj hji hun hnw) (fun cs b=>hsel i oi cs b hi) (fun cs b=>hsel j oj cs b hoj) hQ hy (H.2 j (ready_mono hj hji)));obtain ⟨hy',hs',hw'⟩:=h;refine ⟨hs',ih _ a' w' (fun k ok hk hki hu hno=>hfr k ok hk hki ?_ hno) (ready_mono hr (Ne.symm hji)) hy' (hs' hjT) ?_⟩
  · by_cases hjk:j=k
    · exact hjk▸hun
    rwa [getD_set_ne true hjk] at hu
  rw [Array.setIfInBounds_comm _ _ hji];exact hw'
theorem wpL_take {i:Nat} (hT:waitsT md ops T i=true) {oi:Oper} {v:Value} {n:Nat} {l:Array Bool} {a:Act} {w:World} (hi:ops[i]?=some oi)
 (hs:Region.noSelect ops=true) (hf:Region.free md ops l i=true) (hr:(Region.ready md ops l).contains i=true)
 (hQ:∀ c a w,Q (.panic c) (a.put oi.dst v) w->Q (.panic c) a w) (hy:YieldsIf P ops S oi v a) (hS:S w)
 (h:wpL P md ops Q S T n (l.setIfInBounds i true) (a.put oi.dst v) w):wpL P md ops Q S T (n+1) l a w:=
 wpL_first hi hT (Region.noSelect_spec hs) hQ n l a w (Region.free_spec hi hf) (by simpa using hr) hy hS h
def AllReadyL (P:Program) (md:Region.Mode) (ops:Array Oper) (Q:Exit->Act->World->Prop) (S:World->Prop) (T n:Nat) (l:Array Bool) (a:Act) (w:World) (rs:List Nat):Prop:=
 ∀ i∈rs,wpOp P ops Q i (fun a' w'=>(i≠T->S w')/\wpL P md ops Q S T n (l.setIfInBounds i true) a' w') a w
theorem AllReadyL.nil {n:Nat} {l:Array Bool} {a:Act} {w:World}:AllReadyL P md ops Q S T n l a w []:=fun _ h=>absurd h List.not_mem_nil
theorem AllReadyL.cons {n:Nat} {l:Array Bool} {a:Act} {w:World} {i:Nat} (hne:i≠T) {o:Oper} {rs:List Nat} (ho:ops[i]?=some o)
 (h:∀ K':Act->World->Prop,Shut (∀ a w,S w->(S w->wpL P md ops Q S T n (l.setIfInBounds i true) a w)->K' a w)->if Region.wanted o (yielded ops a.tmps)=true then Oper.wp P o a w K' Q else K' (a.put o.dst undef) w)
 (hs:AllReadyL P md ops Q S T n l a w rs):AllReadyL P md ops Q S T n l a w (i::rs):=fun j hj=>by
 rcases List.mem_cons.1 hj with rfl | hj
 · exact wpOp_step ho (fun K' hK=>h K' (fun a w hS hW=>hK a w ⟨fun _=>hS,hW hS⟩))
 exact hs j hj
theorem AllReadyL.last {n:Nat} {l:Array Bool} {a:Act} {w:World} {o:Oper} (ho:ops[T]?=some o)
 (h:∀ K':Act->World->Prop,Shut (∀ a w,wpL P md ops Q S T n (l.setIfInBounds T true) a w->K' a w)->if Region.wanted o (yielded ops a.tmps)=true then Oper.wp P o a w K' Q else K' (a.put o.dst undef) w):AllReadyL P md ops Q S T n l a w [T]:=fun j hj=>by
 obtain rfl:=List.mem_singleton.1 hj;exact wpOp_step ho (fun K' hK=>h K' (fun a w hW=>hK a w ⟨fun e=>absurd rfl e,hW⟩))
theorem wpL_ready {rs:List Nat} {n:Nat} {l:Array Bool} {a:Act} {w:World} (hr:Region.ready md ops l=rs) (hne:rs≠[]) (h:AllReadyL P md ops Q S T n l a w rs):wpL P md ops Q S T (n+1) l a w:=
 ⟨fun h0=>absurd (hr▸h0) hne,hr▸h⟩
theorem wpL_done {l:Array Bool} {a:Act} {w:World} (hr:Region.ready md ops l=[]) (h:Q .normal a w) (n:Nat):wpL P md ops Q S T n l a w:=by
 cases n with
 | zero=>exact ⟨hr,h⟩
 | succ n=>exact ⟨fun _=>h,by rw [hr];simp⟩
theorem wp_region_L {id:Nat} {a:Act} {w:World} (T:Nat) (hm:P.follows .mixedOrders=true) (hS:S w.drew)
 (h:S w.drew->wpL P .any ops Q S T ops.size (Array.replicate ops.size false) a w.drew):(Code.region id ops true).wp P Q a w:=
 wp_region_any hm (wpL_any _ _ _ _ (h hS))
theorem lk {i:Nat} {oi:Oper} {v:Value} {n:Nat} {l:Array Bool} {a:Act} {w:World} (hi:ops[i]?=some oi) (hb:(waitsT md ops T i&&Region.noSelect ops&&Region.free md ops l i&&(Region.ready md ops l).contains i)=true) (hw:Region.wanted oi (yielded ops a.tmps)=true) (hv:∀ u,S u->(execOp a.eval oi).run P u=.ok (.value v) u) (hS:S w) (h:wpL P md ops Q S T n (l.setIfInBounds i true) (a.put oi.dst v) w) (hQ:∀ c a w,Q (.panic c) (a.put oi.dst v) w->Q (.panic c) a w:=by exact fun _ _ _ h=>h):wpL P md ops Q S T (n+1) l a w:=by
 simp only [Bool.and_eq_true] at hb;exact wpL_take hb.1.1.1 hi hb.1.1.2 hb.1.2 hb.2 hQ (.inl ⟨hw,hv⟩) hS h
theorem lq {v:Value} {n:Nat} {l:Array Bool} {a:Act} {w:World} {d:Option Nat} {op:Op} {ty:TypeId} {p:String} {af:Array Edge} {g:Option (Nat×Bool)} (i:Nat) (hS:S w) (h:wpL P md ops Q S T n (l.setIfInBounds i true) (a.put d v) w) (hi:ops[i]?=some ⟨d,op,ty,p,af,g⟩:=by exact rfl) (hb:(waitsT md ops T i&&Region.noSelect ops&&Region.free md ops l i&&(Region.ready md ops l).contains i)=true:=by kernel_rfl) (hw:Region.wanted ⟨d,op,ty,p,af,g⟩ (yielded ops a.tmps)=true:=by exact rfl) (hv:∀ u,S u->(execOp a.eval ⟨d,op,ty,p,af,g⟩).run P u=.ok (.value v) u:=by intro wq hSw;(try dsimp only at hSw);go_simp;try with_reducible rfl) (hQ:∀ c a w,Q (.panic c) (a.put d v) w->Q (.panic c) a w:=by first | exact fun _ _ _ h=>h | exact fun _ _ _ h=>hQ _ _ _ _ _ h):wpL P md ops Q S T (n+1) l a w:=lk hi hb hw hv hS h hQ
theorem lr {i:Nat} {o:Oper} {n:Nat} {l:Array Bool} {a:Act} {w:World} (ho:ops[i]?=some o) (hne:i≠T) (hr:Region.ready md ops l=[i]) (h:∀ K':Act->World->Prop,Shut (∀ a w,S w->(S w->wpL P md ops Q S T n (l.setIfInBounds i true) a w)->K' a w)->if Region.wanted o (yielded ops a.tmps)=true then Oper.wp P o a w K' Q else K' (a.put o.dst undef) w):wpL P md ops Q S T (n+1) l a w:=wpL_ready hr sm_ (AllReadyL.cons hne ho h AllReadyL.nil)
theorem lz {o:Oper} {n:Nat} {l:Array Bool} {a:Act} {w:World} (ho:ops[T]?=some o) (hr:Region.ready md ops l=[T]) (h:∀ K':Act->World->Prop,Shut (∀ a w,wpL P md ops Q S T n (l.setIfInBounds T true) a w->K' a w)->if Region.wanted o (yielded ops a.tmps)=true then Oper.wp P o a w K' Q else K' (a.put o.dst undef) w):wpL P md ops Q S T (n+1) l a w:=wpL_ready hr sm_ (AllReadyL.last ho h)
theorem st_val {o:Oper} {a:Act} {w w':World} {v:Value} {K:Act->World->Prop} {E:Prop} (hg:o.guard=none) (hr:(execOp a.eval o).run P w=.ok (.value v) w') (hK:K (a.put o.dst v) w'):if Region.wanted o (yielded ops a.tmps)=true then Oper.wp P o a w K Q else E:=by
 rw [if_pos (by simp [Region.wanted,hg])];unfold Oper.wp;rw [hr];exact hK
theorem st_skp {o:Oper} {a:Act} {w w':World} {K:Act->World->Prop} {E:Prop} (hg:o.guard=none) (hr:(execOp a.eval o).run P w=.ok .skip w') (hK:K (a.put o.dst undef) w'):if Region.wanted o (yielded ops a.tmps)=true then Oper.wp P o a w K Q else E:=by
 rw [if_pos (by simp [Region.wanted,hg])];unfold Oper.wp;rw [hr];exact hK
theorem wl_val {rest:List Oper} {o:Oper} {a:Act} {w w':World} {v:Value} (hg:o.guard=none) (hr:(execOp a.eval o).run P w=.ok (.value v) w') (h:wpList P ops Q rest (a.put o.dst v) w'):wpList P ops Q (o::rest) a w:=by
 refine wpList_plain hg fun K hK=>?_;unfold Oper.wp;rw [hr];exact hK _ _ h
theorem wl_skp {rest:List Oper} {o:Oper} {a:Act} {w w':World} (hg:o.guard=none) (hr:(execOp a.eval o).run P w=.ok .skip w') (h:wpList P ops Q rest (a.put o.dst undef) w'):wpList P ops Q (o::rest) a w:=by
 refine wpList_plain hg fun K hK=>?_;unfold Oper.wp;rw [hr];exact hK _ _ h
end
def Cl (w:World) (b:Nat) (t:TypeId) (xs:List Value):Prop:=w.heap[b]?=some (.cells xs.toArray t (0,0))
structure OnB (B:Nat) (w w':World):Prop where
 os:w'.os=w.os
 tape:w'.tape=w.tape
 output:w'.output=w.output
 size:w'.heap.size=w.heap.size
 block:∀ k,k≠B->w'.heap[k]?=w.heap[k]?
theorem Cl.lt {w:World} {b:Nat} {t:TypeId} {xs:List Value} (h:Cl w b t xs):b<w.heap.size:=(Array.getElem?_eq_some_iff.1 h).1
theorem Cl.cell {w:World} {b:Nat} {t:TypeId} {xs:List Value} (h:Cl w b t xs) (j:Nat):w.cell? ⟨b,j,none⟩=xs[j]?:=by
 rw [Lib.cell_of_heap h j];simp
theorem Cl.opn {w:World} {b:Nat} {t:TypeId} {xs:List Value} (h:Cl w b t xs) (j:Nat):w.frozen? ⟨b,j,none⟩=false:=Lib.frozen_of_heap h j
theorem Cl.blk {w:World} {b:Nat} {t:TypeId} {xs:List Value} (h:Cl w b t xs):M.BlkAt w b xs:=fun j v e=>(h.cell j).trans e
theorem Cl.ne {w:World} {a b:Nat} {t t':TypeId} {x y:List Value} (h:Cl w a t x) (k:Cl w b t' y) (hne:t≠t'):a≠b:=fun e=>by
 subst e;unfold Cl at h k;rw [h] at k;injection k with k;injection k with _ k _;exact hne k
theorem Cl.on {w w':World} {b B:Nat} {t:TypeId} {xs:List Value} (h:Cl w b t xs) (ho:OnB B w w') (hne:b≠B):Cl w' b t xs:=(ho.block b hne).trans h
theorem Cl.below {w w':World} {b N:Nat} {t:TypeId} {xs:List Value} (h:Cl w b t xs) (hb:Below N w w') (hN:b<N):Cl w' b t xs:=(hb.block b hN).trans h
theorem Cl.set {w:World} {b:Nat} {t:TypeId} {xs:List Value} (h:Cl w b t xs) (j:Nat) (v:Value):Cl (w.setCell ⟨b,j,none⟩ v) b t (xs.set j v):=by
 have:=heap_setCell_same w b j _ t v h;unfold Cl;rw [this,List.setIfInBounds_toArray]
theorem on_set (w:World) (b j:Nat) (v:Value):OnB b w (w.setCell ⟨b,j,none⟩ v):=⟨rfl,rfl,rfl,sm_,fun k hk=>heap_setCell_other _ _ _ _ hk⟩
theorem OnB.below {B N:Nat} {w w':World} (h:OnB B w w') (hN:N<=B):Below N w w':=⟨h.os,h.tape,h.output,Nat.le_of_eq h.size.symm,fun k hk=>h.block k om_⟩
theorem cl_new (w:World) (xs:List Value) (t:TypeId):Cl (w.alloc (.cells xs.toArray t)) w.heap.size t xs:=heap_alloc_new w _
theorem cl_old {w:World} {b:Nat} {t:TypeId} {xs:List Value} (h:Cl w b t xs) (o:Obj):Cl (w.alloc o) b t xs:=(Lib.alloc_old w o b h.lt).trans h
theorem cl_row {w:World} {b:Nat} {t:TypeId} {xs:List Value} (h:Cl w b t xs):∀ j u,xs[j]?=some u->w.cell? ((⟨b,0,none⟩:Addr).add j)=some u:=fun j u e=>by
 have ha:(⟨b,0,none⟩:Addr).add j=⟨b,j,none⟩:=by unfold Addr.add;split <;> simp_all
 rw [ha];exact (h.cell j).trans e
theorem Cl.fill {w:World} {B:Nat} {t:TypeId} {xs:List Value} (vs:List Value):∀ (j:Nat),Cl w B t xs->∃ ys,Cl (M.fill w B j vs) B t ys/\ys.length=xs.length/\∀ i,ys[i]?=if j<=i/\i<j+vs.length/\i<xs.length then vs[i - j]? else xs[i]?:=by
 induction vs generalizing w xs with
 | nil=>exact fun j h=>⟨xs,h,rfl,fun i=>by rw [if_neg];simp;omega⟩
 | cons v vs ih=>
  intro j h;obtain ⟨ys,h1,h2,h3⟩:=ih (j+1) (h.set j v);refine ⟨ys,h1,by simpa using h2,fun i=>?_⟩;rw [h3 i];simp only [List.length_set,List.length_cons];by_cases hi:i=j
  · subst hi
    rw [if_neg om_];by_cases hl:i<xs.length
    · rw [if_pos ⟨om_,om_,hl⟩,List.getElem?_set_self hl]
      simp
    rw [if_neg om_];simp [List.getElem?_eq_none (show (xs.set i v).length<=i by simp;omega),List.getElem?_eq_none (show xs.length<=i by omega)]
  by_cases hc:j<=i/\i<j+(vs.length+1)/\i<xs.length
  · rw [if_pos hc,if_pos om_]
    obtain ⟨d,rfl⟩:∃ d,i=j+1+d:=⟨i - (j+1),om_⟩;have e1:j+1+d - j=d+1:=om_;have e2:j+1+d - (j+1)=d:=om_;rw [e1,e2];simp
  rw [if_neg hc,if_neg om_,List.getElem?_set_ne om_]
theorem on_fill (B:Nat) (vs:List Value):∀ (w:World) (j:Nat),OnB B w (M.fill w B j vs):=by
 induction vs with
 | nil=>exact fun w j=>⟨rfl,rfl,rfl,rfl,fun _ _=>rfl⟩
 | cons v vs ih=>
  intro w j;have h1:=on_set w B j v;have h2:=ih (w.setCell ⟨B,j,none⟩ v) (j+1);exact ⟨h2.os.trans h1.os,h2.tape.trans h1.tape,h2.output.trans h1.output,h2.size.trans h1.size,fun k hk=>(h2.block k hk).trans (h1.block k hk)⟩
def putL (xs:List Value) (j:Nat) (vs:List Value):List Value:=xs.take j++vs++xs.drop (j+vs.length)
theorem Cl.fillP {w:World} {B:Nat} {t:TypeId} {xs vs:List Value} {j:Nat} (h:Cl w B t xs) (hl:j+vs.length<=xs.length):Cl (M.fill w B j vs) B t (putL xs j vs):=by
 obtain ⟨ys,h1,h2,h3⟩:=h.fill vs j;have:ys=putL xs j vs:=by
  apply List.ext_getElem?;intro i;rw [h3 i];unfold putL;by_cases h4:i<j
  · rw [if_neg om_,List.append_assoc,List.getElem?_append_left so_,List.getElem?_take_of_lt h4]
  by_cases h5:i<j+vs.length
  · rw [if_pos ⟨om_,h5,om_⟩,List.append_assoc,List.getElem?_append_right so_,List.getElem?_append_left so_]
    congr 1
    simp;omega
  rw [if_neg om_,List.getElem?_append_right so_,List.getElem?_drop]
  congr 1
  simp;omega
 rw [<- this];exact h1
section
variable {P:Program} {ops:Array Oper} {Q:Exit->Act->World->Prop}
theorem ex_stN {o:Oper} {a:Act} {w:World} (ty:TypeId) (x y:Operand) (ho:o.op=.store ty x y) {B j:Nat} {t:TypeId} {xs vs:List Value} (hx:a.eval x=.pointer (some ⟨B,j,none⟩)) (hy:a.eval y=.agg vs.toArray) (hB:Cl w B t xs) (hl:j+vs.length<=xs.length) (h1:∀ v∈vs,v.oneCell'=true) (hi:(P.info? ty).map (·.size)=some vs.length):
 (execOp a.eval o).run P w=.ok .skip (M.fill w B j vs):=by
 unfold execOp;simp only [ho,hx,hy,Instr.storeAt,Instr.sureAddr,Sem.run_bind,Sem.run_pure,Result.andThen_ok,M.run_storeVar_blk w B j ty vs (fun i h=>by rw [hB.cell];simp;omega) (fun j=>hB.opn j) h1 hi]
theorem st_stN {o:Oper} {a:Act} {w:World} {K:Act->World->Prop} {E:Prop} (hg:o.guard=none) (ty:TypeId) (x y:Operand) (ho:o.op=.store ty x y) {B j:Nat} {t:TypeId} {xs vs:List Value} (hx:a.eval x=.pointer (some ⟨B,j,none⟩)) (hy:a.eval y=.agg vs.toArray) (hB:Cl w B t xs) (hl:j+vs.length<=xs.length) (h1:∀ v∈vs,v.oneCell'=true) (hi:(P.info? ty).map (·.size)=some vs.length)
 (hK:∀ w',Cl w' B t (putL xs j vs)->OnB B w w'->K (a.put o.dst undef) w'):if Region.wanted o (yielded ops a.tmps)=true then Oper.wp P o a w K Q else E:=
 st_skp hg (ex_stN ty x y ho hx hy hB hl h1 hi) (hK _ (hB.fillP hl) (on_fill _ _ _ _))
theorem wl_stN {rest:List Oper} {o:Oper} {a:Act} {w:World} (hg:o.guard=none) (ty:TypeId) (x y:Operand) (ho:o.op=.store ty x y) {B j:Nat} {t:TypeId} {xs vs:List Value} (hx:a.eval x=.pointer (some ⟨B,j,none⟩)) (hy:a.eval y=.agg vs.toArray) (hB:Cl w B t xs) (hl:j+vs.length<=xs.length) (h1:∀ v∈vs,v.oneCell'=true) (hi:(P.info? ty).map (·.size)=some vs.length)
 (hK:∀ w',Cl w' B t (putL xs j vs)->OnB B w w'->wpList P ops Q rest (a.put o.dst undef) w'):wpList P ops Q (o::rest) a w:=
 wl_skp hg (ex_stN ty x y ho hx hy hB hl h1 hi) (hK _ (hB.fillP hl) (on_fill _ _ _ _))
theorem ex_ldN {o:Oper} {a:Act} {w:World} (ty:TypeId) (x:Operand) (ho:o.op=.load ty x) {B j:Nat} {cs:List Value} {d:TypeDesc} (hx:a.eval x=.pointer (some ⟨B,j,none⟩)) (hc:∀ i v,cs[i]?=some v->w.cell? ⟨B,j+i,none⟩=some v) (hu:P.underlying ty=some d) (hd:(match d with | .struct _ | .array _ _=>true | _=>false)=true) (hi:(P.info? ty).map (·.size)=some cs.length):
 (execOp a.eval o).run P w=.ok (.value (.agg cs.toArray)) w:=by
 have hl:(loadCells ⟨B,j,none⟩ cs.length).run P w=.ok cs.toArray w:=
  run_loadCells_list (P:=P) w ⟨B,j,none⟩ cs (fun i v hv=>by rw [M.adr_add];exact hc i v hv)
 have hr:(loadVar ty ⟨B,j,none⟩).run P w=.ok (.agg cs.toArray) w:=by
  cases hq:P.info? ty with
  | none=>simp [hq] at hi
  | some i=>
   have hs:i.size=cs.length:=by simpa [hq] using hi
   have hagg:(isAgg ty).run P w=.ok true w:=by
    unfold isAgg;rw [Sem.run_bind,run_underlying hu w];cases d <;> simp_all
   simp [loadVar,Sem.run_bind,hagg,sizeOf,typeInfo,hq,hs,hl]
 unfold execOp;simp only [ho,hx,Instr.loadAt,Instr.sureAddr,Sem.run_bind,Sem.run_pure,Result.andThen_ok,hr]
def Inf (P:Program) (e:TypeId) (size:Nat):Prop:=∃ i z,P.info? e=some i/\i.zero=some z/\i.size=size/\z.cells.size=size/\i.bytes<=1000
theorem inf_of {e:TypeId} {size:Nat} (h:((P.info? e).map fun i=>(i.zero.map fun z=>z.cells.size,i.size,decide (i.bytes<=1000)))=some (some size,size,true)):Inf P e size:=by
 cases hq:P.info? e with
 | none=>rw [hq] at h;cases h
 | some i=>
  rw [hq] at h;simp only [Option.map_some,Option.some.injEq,Prod.mk.injEq,decide_eq_true_eq] at h;obtain ⟨h1,h2,h3⟩:=h;obtain ⟨z,h4,h5⟩:=Option.map_eq_some_iff.1 h1;exact ⟨i,z,hq,h4,h2,h5,h3⟩
def Src (w:World) (sv:Value) (size m:Nat) (news:List Value):Prop:=((∃ c,sv=.slice none 0 c)/\m=0/\news=[])\/∃ ad c,sv=.slice (some ad) m c/\news.length=m*size/\∀ j u,news[j]?=some u->w.cell? (ad.add j)=some u
theorem run_appS (w:World) (base:Nat) (t ty e:TypeId) (size:Nat) (ht:P.underlying t=some (.slice e)) (hinf:Inf P e size) (hsz:0<size) (v:Value) (n:Nat) (xs:List Value) (hown:w.ownsRow base e size v n xs) (sv:Value) (m:Nat) (news:List Value) (hs:Src w sv size m news) (h1:∀ u∈news,u.oneCell'=true) (hn:n+m<=1000000) (hbase:base<=w.heap.size):
 ∃ v' w',(Builtin.append_ #[t,t] ty #[v,sv]).run P w=.ok v' w'/\w'.ownsRow base e size v' (n+m) (xs++news)/\w.grownBy w' v.ownBlock/\(v'.ownBlock=v.ownBlock\/v'.ownBlock=some w.heap.size):=by
 obtain ⟨i,z,hi,hz,hsize,hzs,hby⟩:=hinf;rcases hs with ⟨⟨c,rfl⟩,rfl,rfl⟩ | ⟨ad,c,rfl,hl,hnews⟩
 · refine ⟨v,w,?_,by simpa using hown,⟨rfl,rfl,rfl,Nat.le_refl _,fun _ _ _=>rfl⟩,.inl rfl⟩
   rcases hown.2 with ⟨rfl,rfl⟩ | ⟨g,cap,cur,rfl,hbg,hg,hnc,hcm,hcs,htake⟩
   · simp [Builtin.append_,run_underlying ht,sizeOf,typeInfo,hi,Builtin.lenOf,Builtin.firstCells]
   simp [Builtin.append_,run_underlying ht,sizeOf,typeInfo,hi,Builtin.lenOf,Builtin.firstCells,loadCells,hnc,storeCells]
 obtain ⟨v',w',hr,h2,h3,h4,h5⟩:=run_append_own_at (P:=P) w base t ty e i z size i.bytes ht hi hz hsize rfl hzs hsz v n xs hown ad m c news hl hnews h1 (by simp only [maxLen];omega) (Nat.le_trans (Nat.mul_le_mul hn hby) dc_) hbase;exact ⟨v',w',hr,h2,h3,h5⟩
theorem st_app {o:Oper} {a:Act} {w:World} {K:Act->World->Prop} {E:Prop} (hg:o.guard=none) (s x:Operand) (t:TypeId) (ho:o.op=.call { callee:=.builtin .append,args:=#[s,x],argTypes:=#[t,t] })
 (base:Nat) (e:TypeId) (size:Nat) (ht:P.underlying t=some (.slice e)) (hinf:Inf P e size) (hsz:0<size) (v:Value) (n:Nat) (xs:List Value) (hs:a.eval s=v) (hown:w.ownsRow base e size v n xs) (sv:Value) (m:Nat) (news:List Value) (hx:a.eval x=sv) (hsrc:Src w sv size m news) (h1:∀ u∈news,u.oneCell'=true) (hn:n+m<=1000000) (hbase:base<=w.heap.size)
 (h:∀ v' w',w'.ownsRow base e size v' (n+m) (xs++news)->w.grownBy w' v.ownBlock->(v'.ownBlock=v.ownBlock\/v'.ownBlock=some w.heap.size)->K (a.put o.dst v') w'):if Region.wanted o (yielded ops a.tmps)=true then Oper.wp P o a w K Q else E:=by
 obtain ⟨v',w',hr,h2,h3,h5⟩:=run_appS w base t o.type e size ht hinf hsz v n xs hown sv m news hsrc h1 hn hbase;refine st_val hg (v:=v') (w':=w') ?_ (h v' w' h2 h3 h5);unfold execOp;simp only [ho,resolve,invoke,builtin,Sem.run_bind,Sem.run_pure,Result.andThen_ok,List.map_toArray,List.map_cons,List.map_nil,hs,hx,hr]
theorem wl_app {rest:List Oper} {o:Oper} {a:Act} {w:World} (hg:o.guard=none) (s x:Operand) (t:TypeId) (ho:o.op=.call { callee:=.builtin .append,args:=#[s,x],argTypes:=#[t,t] })
 (base:Nat) (e:TypeId) (size:Nat) (ht:P.underlying t=some (.slice e)) (hinf:Inf P e size) (hsz:0<size) (v:Value) (n:Nat) (xs:List Value) (hs:a.eval s=v) (hown:w.ownsRow base e size v n xs) (sv:Value) (m:Nat) (news:List Value) (hx:a.eval x=sv) (hsrc:Src w sv size m news) (h1:∀ u∈news,u.oneCell'=true) (hn:n+m<=1000000) (hbase:base<=w.heap.size)
 (h:∀ v' w',w'.ownsRow base e size v' (n+m) (xs++news)->w.grownBy w' v.ownBlock->(v'.ownBlock=v.ownBlock\/v'.ownBlock=some w.heap.size)->wpList P ops Q rest (a.put o.dst v') w'):wpList P ops Q (o::rest) a w:=by
 obtain ⟨v',w',hr,h2,h3,h5⟩:=run_appS w base t o.type e size ht hinf hsz v n xs hown sv m news hsrc h1 hn hbase;refine wl_val hg (v:=v') (w':=w') ?_ (h v' w' h2 h3 h5);unfold execOp;simp only [ho,resolve,invoke,builtin,Sem.run_bind,Sem.run_pure,Result.andThen_ok,List.map_toArray,List.map_cons,List.map_nil,hs,hx,hr]
end
def OffRow (w:World) (base:Nat) (e:TypeId) (v:Value) (xs:List Value):Prop:=
 (v=.slice none 0 0/\xs=[])\/∃ g off cap cur,v=.slice (some ⟨g,off,none⟩) xs.length cap/\base<=g/\w.heap[g]?=some (.cells cur e (0,0))/\xs.length<=cap/\cap<=maxLen/\off+cap<=cur.size/\(cur.toList.drop off).take xs.length=xs
theorem OffRow.keep {w w':World} {base:Nat} {e:TypeId} {v:Value} {xs:List Value} (h:OffRow w base e v xs) (hk:∀ k,v.ownBlock=some k->k<w.heap.size->w'.heap[k]?=w.heap[k]?):OffRow w' base e v xs:=by
 rcases h with h | ⟨g,off,cap,cur,h1,h2,h3,h4⟩
 · exact .inl h
 exact .inr ⟨g,off,cap,cur,h1,h2,(hk g (by rw [h1];rfl) (Array.getElem?_eq_some_iff.1 h3).1).trans h3,h4⟩
theorem OffRow.lt {w:World} {base:Nat} {e:TypeId} {v:Value} {xs:List Value} (h:OffRow w base e v xs) {k:Nat} (hk:v.ownBlock=some k):base<=k/\∃ cur,w.heap[k]?=some (.cells cur e (0,0)):=by
 rcases h with ⟨rfl,_⟩ | ⟨g,off,cap,cur,rfl,h2,h3,h4⟩
 · cases hk
 obtain rfl:g=k:=by injection hk
 exact ⟨h2,cur,h3⟩
section
variable {P:Program} (w:World)
end
section
variable {P:Program} {ops:Array Oper} {Q:Exit->Act->World->Prop}
end
theorem inf74:Inf Tryz.prog 74 4:=inf_of kr_
theorem inf119:Inf Tryz.prog 119 8:=inf_of kr_
end Go.Proofs.YthjhakdpikdoeaaGreatDoor
namespace Go.Proofs.YthjhakdpikdoeaaGreatDoor
open Go.RowKit
section
variable {P:Program} {ops:Array Oper} {Q:Exit->Act->World->Prop} {md:Region.Mode} {S:World->Prop} {T:Nat}
def Clo (md:Region.Mode) (ops:Array Oper) (l:Array Bool):Prop:=∀ j o,ops[j]?=some o->l.getD j true=true->∀ e∈o.after,Region.binds md e=true->l.getD e.on true=true
def cloB (md:Region.Mode) (ops:Array Oper) (l:Array Bool):Bool:=(List.range ops.size).all fun j=>(ops[j]?).all fun o=>!l.getD j true || o.after.all fun e=>!Region.binds md e || l.getD e.on true
theorem clo_of {l:Array Bool} (h:cloB md ops l=true):Clo md ops l:=fun j o ho hl e he hb=>by
 unfold cloB at h;have hj:j<ops.size:=(Array.getElem?_eq_some_iff.1 ho).1;have h1:=List.all_eq_true.1 h j (List.mem_range.2 hj);rw [ho] at h1;simp only [Option.all_some,Bool.or_eq_true,Bool.not_eq_true',hl,Bool.true_eq_false,false_or,Array.all_eq_true'] at h1;have h2:=h1 e he;rw [hb] at h2;simpa using h2
def chainT (md:Region.Mode) (ops:Array Oper):Nat->Nat->Nat->Bool
 | 0,T,i=>waitsT md ops T i
 | n+1,T,i=>waitsT md ops T i || (List.range ops.size).any fun j=>waitsT md ops T j&&chainT md ops n j i
theorem clo_waits {l:Array Bool} (hc:Clo md ops l) {T i:Nat} (hw:waitsT md ops T i=true) (hl:l.getD T true=true):l.getD i true=true:=by
 unfold waitsT at hw
 cases ho:ops[T]? with
 | none=>rw [ho] at hw;cases hw
 | some o=>
  rw [ho] at hw;simp only [Option.any_some,Array.any_eq_true] at hw;obtain ⟨k,hk,hb⟩:=hw;simp only [Bool.and_eq_true,beq_iff_eq] at hb;have:=hc T o ho hl _ (Array.getElem_mem hk) hb.1;rw [hb.2] at this;exact this
theorem clo_chain {l:Array Bool} (hc:Clo md ops l):∀ (n:Nat) {T i:Nat},chainT md ops n T i=true->l.getD T true=true->l.getD i true=true
 | 0,_,_,h,hl=>clo_waits hc h hl
 | n+1,T,i,h,hl=>by
  unfold chainT at h;rw [Bool.or_eq_true] at h;rcases h with h | h
  · exact clo_waits hc h hl
  obtain ⟨j,_,hj⟩:=List.any_eq_true.1 h;rw [Bool.and_eq_true] at hj;exact clo_chain hc n hj.2 (clo_waits hc hj.1 hl)
theorem ready_waits {l:Array Bool} {T i:Nat} (hw:waitsT md ops T i=true) (h:T∈Region.ready md ops l):l.getD i true=true:=by
 obtain ⟨_,o,ho,hall⟩:=mem_ready.1 h;unfold waitsT at hw;rw [ho] at hw;simp only [Option.any_some,Array.any_eq_true] at hw;obtain ⟨k,hk,hb⟩:=hw;simp only [Bool.and_eq_true,beq_iff_eq] at hb;have h1:=hall _ (Array.getElem_mem hk) hb.1;rw [hb.2] at h1;rcases Nat.lt_or_ge i l.size with h' | h'
 · simp [h'] at h1 ⊢;exact h1
 simp [Array.getD,show ¬ i<l.size by omega]
theorem not_yet2 {l:Array Bool} (hc:Clo md ops l) {n T i:Nat} (hT:chainT md ops n T i=true) (hi:i∈Region.ready md ops l):T∉Region.ready md ops l:=fun h=>by
 have h0:=(mem_ready.1 hi).1;have:l.getD i true=true:=by
  cases n with
  | zero=>exact ready_waits hT h
  | succ n=>
   unfold chainT at hT;rw [Bool.or_eq_true] at hT;rcases hT with hT | hT
   · exact ready_waits hT h
   obtain ⟨j,_,hj⟩:=List.any_eq_true.1 hT;rw [Bool.and_eq_true] at hj;exact clo_chain hc n hj.2 (ready_waits hj.1 h)
 rw [this] at h0;cases h0
theorem clo_set {l:Array Bool} (hc:Clo md ops l) {j:Nat} (hj:j∈Region.ready md ops l):Clo md ops (l.setIfInBounds j true):=fun k o ho hl e he hb=>by
 have up:∀ q,l.getD q true=true->(l.setIfInBounds j true).getD q true=true:=fun q hq=>by
  by_cases hqj:j=q
  · subst hqj
    rcases Nat.lt_or_ge j l.size with h' | h'
    · simp [Array.getD,h']
    simp [Array.getD,show ¬ j<l.size by omega]
  rw [getD_set_ne true hqj];exact hq
 by_cases hkj:j=k;rotate_left
 · rw [getD_set_ne true hkj] at hl
   exact up _ (hc k o ho hl e he hb)
 subst hkj;obtain ⟨_,o',ho',hall⟩:=mem_ready.1 hj;rw [ho] at ho';obtain rfl:=Option.some.inj ho';have h1:=hall e he hb;refine up _ ?_;rcases Nat.lt_or_ge e.on l.size with h' | h'
 · simp [h'] at h1 ⊢;exact h1
 simp [Array.getD,show ¬ e.on<l.size by omega]
theorem wpL_first2 {i c:Nat} {oi:Oper} {v:Value} (hi:ops[i]?=some oi) (hT:chainT md ops c T i=true) (hsel:∀ (j:Nat) (o:Oper) cs b,ops[j]?=some o->o.op≠.select cs b)
 (hQ:∀ c a w,Q (.panic c) (a.put oi.dst v) w->Q (.panic c) a w) (n:Nat):∀ (l:Array Bool) (a:Act) (w:World),Clo md ops l->
  (∀ j oj,ops[j]?=some oj->j≠i->l.getD j true=false->(∀ e∈oj.after,Region.binds md e=true->e.on≠i)->oi.apart ops oj=true)->
  i∈Region.ready md ops l->YieldsIf P ops S oi v a->S w->
  wpL P md ops Q S T n (l.setIfInBounds i true) (a.put oi.dst v) w->wpL P md ops Q S T (n+1) l a w:=by
 have hnx:∀ (l:Array Bool) j,Clo md ops l->i∈Region.ready md ops l->j∈Region.ready md ops l->j≠T:=fun l j hc h1 h2 e=>not_yet2 hc hT h1 (e▸h2)
 induction n with
 | zero=>
  refine fun l a w _ _ hr hy hS H=>⟨fun h=>absurd (h▸hr) List.not_mem_nil,fun j hj=>?_⟩;by_cases hji:j=i
  · subst hji;exact hy.wpOp hi hS ⟨fun _=>hS,H⟩
  exact absurd (H.1▸ready_mono hj hji) List.not_mem_nil
 | succ n ih=>
  refine fun l a w hc hfr hr hy hS H=>⟨fun h=>absurd (h▸hr) List.not_mem_nil,fun j hj=>?_⟩;by_cases hji:j=i
  · subst hji;exact hy.wpOp hi hS ⟨fun _=>hS,H⟩
  have hjT:=hnx l j hc hr hj;obtain ⟨hun,oj,hoj,hall⟩:=mem_ready.1 hj;have hnw:∀ e∈oj.after,Region.binds md e=true->e.on≠i:=fun e he hb heq=>by
   have h1:=hall e he hb;have h0:=(mem_ready.1 hr).1;rw [heq] at h1;rcases Nat.lt_or_ge i l.size with h' | h'
   · simp [h'] at h0 h1;rw [h0] at h1;cases h1
   simp [Array.getElem?_eq_none h'] at h1
  refine wpOp_mono (fun a' w' h=>?_) (wpOp_putIf hoj (hfr j oj hoj hji hun hnw) (fun cs b=>hsel i oi cs b hi) (fun cs b=>hsel j oj cs b hoj) hQ hy (H.2 j (ready_mono hj hji)));obtain ⟨hy',hs',hw'⟩:=h;refine ⟨hs',ih _ a' w' (clo_set hc hj) (fun k ok hk hki hu hno=>hfr k ok hk hki ?_ hno) (ready_mono hr (Ne.symm hji)) hy' (hs' hjT) ?_⟩
  · by_cases hjk:j=k
    · exact hjk▸hun
    rwa [getD_set_ne true hjk] at hu
  rw [Array.setIfInBounds_comm _ _ hji];exact hw'
theorem lk2 {i:Nat} {oi:Oper} {v:Value} {n:Nat} {l:Array Bool} {a:Act} {w:World} (hi:ops[i]?=some oi) (hb:(cloB md ops l&&chainT md ops 12 T i&&Region.noSelect ops&&Region.free md ops l i&&(Region.ready md ops l).contains i)=true) (hw:Region.wanted oi (yielded ops a.tmps)=true) (hv:∀ u,S u->(execOp a.eval oi).run P u=.ok (.value v) u) (hS:S w) (h:wpL P md ops Q S T n (l.setIfInBounds i true) (a.put oi.dst v) w) (hQ:∀ c a w,Q (.panic c) (a.put oi.dst v) w->Q (.panic c) a w:=by exact fun _ _ _ h=>h):wpL P md ops Q S T (n+1) l a w:=by
 simp only [Bool.and_eq_true] at hb;exact wpL_first2 hi hb.1.1.1.2 (Region.noSelect_spec hb.1.1.2) hQ n l a w (clo_of hb.1.1.1.1) (Region.free_spec hi hb.1.2) (by simpa using hb.2) (.inl ⟨hw,hv⟩) hS h
theorem l2 {v:Value} {n:Nat} {l:Array Bool} {a:Act} {w:World} {d:Option Nat} {op:Op} {ty:TypeId} {p:String} {af:Array Edge} {g:Option (Nat×Bool)} (i:Nat) (hS:S w) (h:wpL P md ops Q S T n (l.setIfInBounds i true) (a.put d v) w) (hi:ops[i]?=some ⟨d,op,ty,p,af,g⟩:=by exact rfl) (hb:(cloB md ops l&&chainT md ops 12 T i&&Region.noSelect ops&&Region.free md ops l i&&(Region.ready md ops l).contains i)=true:=by kernel_rfl) (hw:Region.wanted ⟨d,op,ty,p,af,g⟩ (yielded ops a.tmps)=true:=by exact rfl) (hv:∀ u,S u->(execOp a.eval ⟨d,op,ty,p,af,g⟩).run P u=.ok (.value v) u:=by intro wq hSw;(try dsimp only at hSw);go_simp;try with_reducible rfl) (hQ:∀ c a w,Q (.panic c) (a.put d v) w->Q (.panic c) a w:=by first | exact fun _ _ _ h=>h | exact fun _ _ _ h=>hQ _ _ _ _ _ h):wpL P md ops Q S T (n+1) l a w:=lk2 hi hb hw hv hS h hQ
end
end Go.Proofs.YthjhakdpikdoeaaGreatDoor
