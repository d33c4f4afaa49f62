import Derived.Test.YtdpoaadafcaffaaGreatDoorZ00
set_option maxHeartbeats 8000000
set_option linter.unusedSimpArgs false
namespace Go.Proofs.YtdpoaadafcaffaaGreatDoor.G.T
open Proofs.Tryz
open Go.RowKit
structure F2 where
 nm:ByteArray
 tx:ByteArray
def L6:F2:=⟨⟨#[]⟩,⟨#[]⟩⟩
def U3 (w:World) (a:Option Addr) (rs:List F2):Prop:=
 rs=[]\/∃ b off,a=some ⟨b,off,none⟩/\b<w.heap.size/\∀ i,i<rs.length->w.cell? ⟨b,off+i*2,none⟩=some (.string (rs.getD i L6).nm)/\w.cell? ⟨b,off+i*2+1,none⟩=some (.string (rs.getD i L6).tx)
theorem U7 {w:World} {a:Option Addr} {rs:List F2} (h:U3 w a rs):∃ b off,(rs=[]\/(a=some ⟨b,off,none⟩/\b<w.heap.size/\∀ i,i<rs.length->w.cell? ⟨b,off+i*2,none⟩=some (.string (rs.getD i L6).nm)/\w.cell? ⟨b,off+i*2+1,none⟩=some (.string (rs.getD i L6).tx))):=by
 rcases h with h | ⟨b,off,h⟩
 · exact ⟨0,0,.inl h⟩
 exact ⟨b,off,.inr h⟩
theorem X0 {w w':World} {a:Option Addr} {rs:List F2} (h:U3 w a rs) (hb:Below w.heap.size w w'):U3 w' a rs:=by
 rcases h with h | ⟨b,off,h1,h2,h3⟩
 · exact .inl h
 exact .inr ⟨b,off,h1,Nat.lt_of_lt_of_le h2 hb.size,fun i hi=>by rw [hb.cell (by exact h2),hb.cell (by exact h2)];exact h3 i hi⟩
def F2.le (x:F2) (B:Nat):Prop:=x.nm.size<=B/\x.tx.size<=B
def KI (w:World) (g:Nat):Prop:=g<w.heap.size/\∀ j,w.frozen? ⟨g,j,none⟩=false
theorem KI.set {w:World} {g:Nat} {p:Addr} {v:Value} (h:KI w g):KI (w.setCell p v) g:=⟨by simpa using h.1,fun j=>by simpa using h.2 j⟩
def a_ (x:F2):Bool:=Y1 x.nm.data.toList&&decide ((x.tx.size:Int)<=300)
theorem VJ (x:F2) (w:World) (hs:x.le 1048700):
 Calls prog 44 #[.agg #[.string x.nm,.string x.tx]] w fun e w'=>e=.returned (.bool (a_ x))/\Below w.heap.size w w':=by
 have HF:Hid (a_ x=(Y1 x.nm.data.toList&&decide ((x.tx.size:Int)<=300))):=rfl;obtain ⟨h1,h2⟩:=hs;go_enter func44,ntmps44
 go_wp2_with fail
 refine (Um _ _ h1).mono ?_;rintro e w1 ⟨rfl,rfl⟩;cases hn:Y1 x.nm.data.toList
 all_goals
  rw [hn] at HF;go_wp2
  all_goals go_ret
  all_goals exact ⟨U4 (by rw [HF.out];simp),bA⟩
theorem c34 (x:F2) (w:World) (hs:x.le 1048700):
 Calls prog 34 #[.agg #[.string x.nm,.string x.tx]] w fun e w'=>e=.returned (.bool (a_ x))/\Below w.heap.size w w':=by
 have HF:Hid (a_ x=(Y1 x.nm.data.toList&&decide ((x.tx.size:Int)<=300))):=rfl;obtain ⟨h1,h2⟩:=hs;go_enter func34,ntmps34
 go_wp2_with fail
 refine (c17 _ _ h1).mono ?_;rintro e w1 ⟨rfl,rfl⟩;cases hn:Y1 x.nm.data.toList
 all_goals
  rw [hn] at HF;go_wp2
  all_goals go_ret
  all_goals exact ⟨U4 (by rw [HF.out];simp),bA⟩
theorem Vx {x:F2} {v:Bool} (hv:a_ x=v) (w:World) (hs:x.le 1048700):
 Calls prog 44 #[.agg #[.string x.nm,.string x.tx]] w fun e w'=>e=.returned (.bool v)/\Below w.heap.size w w':=hv▸VJ x w hs
theorem Gw {x:F2} {v:Bool} (hv:a_ x=v) (w:World) (hs:x.le 1048700):
 Calls prog 34 #[.agg #[.string x.nm,.string x.tx]] w fun e w'=>e=.returned (.bool v)/\Below w.heap.size w w':=hv▸c34 x w hs
def f_ (fs:List F2) (k:Nat):Bool:=a_ (fs.getD k L6)&&(decide (k=0) || Op.bytesLess (fs.getD (k - 1) L6).nm.toList (fs.getD k L6).nm.toList)
def Y3 (fs:List F2):Prop:=fs.length<=40/\∀ k,k<fs.length->f_ fs k=true
theorem c21 (a:Option Addr) (cap:Nat) (fs:List F2) (w:World) (hl:fs.length<=1048576) (hs:∀ i,(fs.getD i L6).le 1048576) (hat:U3 w a fs):
 Calls prog 21 #[.agg #[.slice a fs.length cap]] w fun e w'=>(∃ b:Bool,e=.returned (.bool b)/\(b=true↔Y3 fs))/\Below w.heap.size w w':=by
 obtain ⟨b,off,hc⟩:=U7 hat;have HC:=Q0 hc;clear hc hat;by_cases hbig:40<fs.length
 · go_enter func21,ntmps21
   go_wp2;go_ret;exact ⟨⟨false,rfl,by simp [Y3];omega⟩,bA⟩
 go_enter func21,ntmps21
 go_wp2_with fail
 go_loopw [3] (fun i wr=>∃ k:Nat,k<=fs.length/\i=.int .i64 k/\Below w.heap.size w wr/\wr.cell? ⟨w.heap.size,0,none⟩=some (.slice a fs.length cap)/\w.heap.size+1<=wr.heap.size/\Hid (∀ j,j<k->f_ fs j=true)) (fun i _=>fs.length - (intOf i).toNat)
 case atStart=>exact ⟨0,Nat.zero_le _,rfl,bA,U0,U0,fun j h=>absurd h (Nat.not_lt_zero _)⟩
 obtain ⟨k,hk,rfl,hb,t0,hz,hdone⟩:=hrel;by_cases hlt:k<fs.length;rotate_left
 · have hd':Hid (Y3 fs):=⟨O0,fun j hj=>hdone.out j O0⟩
   go_wp2;go_ret;exact ⟨⟨true,rfl,by simp only [true_iff];exact hd'.out⟩,hb⟩
 rcases HC.out with hss | ⟨ha,hbw,hcell⟩
 · rw [hss] at hlt;exact absurd hlt (Nat.not_lt_zero _)
 subst ha;have HB:=Q0 hb;have g0:=(hb.cell (p:=⟨b,off+k*2,none⟩) hbw).trans (hcell k hlt).1;have g1:=(hb.cell (p:=⟨b,off+k*2+1,none⟩) hbw).trans (hcell k hlt).2;have hbr:=Nat.lt_of_lt_of_le hbw hb.size;have hsx:Hid ((fs.getD k L6).le 1048700):=⟨Nat.le_trans (hs k).1 O0,Nat.le_trans (hs k).2 O0⟩;rcases Nat.eq_zero_or_pos k with h0 | h0
 · subst h0
   have HS:Hid (f_ fs 0=a_ (fs.getD 0 L6)):=by simp [f_,Hid]
   simp only [Nat.zero_mul,Nat.add_zero] at g0 g1;generalize fs.getD 0 L6=x at*;clear hcell hb;cases hx:a_ x
   · go_wp2_with fail
     refine wp_region_held_drew (S:=(fun u=>u.cell? ⟨w.heap.size,0,none⟩=some (.slice (some ⟨b,off,none⟩) fs.length cap)/\u.cell? ⟨b,off,none⟩=some (.string x.nm)/\u.cell? ⟨b,off+1,none⟩=some (.string x.tx))) I1 ?_ fun hH=>?_
     · ((try dsimp only);go_keep)
     refine tq 0 hH ?_;refine tq 1 hH ?_
     try simp only [qq]
     refine tq 2 hH ?_;refine tq 3 hH ?_
     try simp only [qq]
     refine tq 4 hH ?_
     try simp only [qq]
     refine rq 5 fun K hK=>?_;go_simp;refine (Vx hx _ hsx.out).mono ?_;rintro e w1 ⟨rfl,hb1⟩;have HB1:Hid (Below wr.heap.size wr w1):=((Below.refl _ _).drew).trans hb1;have p0:=(HB1.out.cell (p:=⟨w.heap.size,0,none⟩) (by show w.heap.size<wr.heap.size;omega)).trans t0;have p1:=(HB1.out.cell (p:=⟨b,off,none⟩) hbr).trans g0;have p2:=(HB1.out.cell (p:=⟨b,off+1,none⟩) hbr).trans g1
     go_wp2_with fail
     clear hH;refine hK.out _ _ ?_ fun hH=>?_
     · ((try dsimp only);go_keep)
     clear hK K;refine tq 6 hH ?_;refine tq 7 hH ?_
     try simp only [qq]
     refine uq 8 hH ?_;refine uq 9 hH ?_
     try simp only [qq]
     refine uq 10 hH ?_;refine uq 11 hH ?_
     try simp only [qq]
     refine uq 12 hH ?_;refine uq 13 hH ?_
     try simp only [qq]
     refine uq 14 hH ?_;refine uq 15 hH ?_
     try simp only [qq]
     refine uq 16 hH ?_;refine uq 17 hH ?_
     try simp only [qq]
     refine uq 18 hH ?_;refine uq 19 hH ?_
     try simp only [qq]
     refine uq 20 hH ?_;refine uq 21 hH ?_
     try simp only [qq]
     refine uq 22 hH ?_;refine uq 23 hH ?_
     try simp only [qq]
     refine uq 24 hH ?_;refine uq 25 hH ?_
     try simp only [qq]
     refine tq 26 hH ?_
     try simp only [qq]
     refine wpAnyH_done I1 ?_ _;have hB1:=bT HB.out HB1.out;rw [hx] at HS;clear hH;go_wp2;go_ret;exact ⟨⟨false,rfl,by simp only [Bool.false_eq_true,false_iff];intro h;have:=h.2 _ hlt;rw [HS.out] at this;cases this⟩,hB1⟩
   go_wp2_with fail
   refine wp_region_held_drew (S:=(fun u=>u.cell? ⟨w.heap.size,0,none⟩=some (.slice (some ⟨b,off,none⟩) fs.length cap)/\u.cell? ⟨b,off,none⟩=some (.string x.nm)/\u.cell? ⟨b,off+1,none⟩=some (.string x.tx))) I1 ?_ fun hH=>?_
   · ((try dsimp only);go_keep)
   refine tq 0 hH ?_;refine tq 1 hH ?_
   try simp only [qq]
   refine tq 2 hH ?_;refine tq 3 hH ?_
   try simp only [qq]
   refine tq 4 hH ?_
   try simp only [qq]
   refine rq 5 fun K hK=>?_;go_simp;refine (Vx hx _ hsx.out).mono ?_;rintro e w1 ⟨rfl,hb1⟩;have HB1:Hid (Below wr.heap.size wr w1):=((Below.refl _ _).drew).trans hb1;have p0:=(HB1.out.cell (p:=⟨w.heap.size,0,none⟩) (by show w.heap.size<wr.heap.size;omega)).trans t0;have p1:=(HB1.out.cell (p:=⟨b,off,none⟩) hbr).trans g0;have p2:=(HB1.out.cell (p:=⟨b,off+1,none⟩) hbr).trans g1
   go_wp2_with fail
   clear hH;refine hK.out _ _ ?_ fun hH=>?_
   · ((try dsimp only);go_keep)
   clear hK K;refine tq 6 hH ?_;refine tq 7 hH ?_
   try simp only [qq]
   refine tq 8 hH ?_;refine tq 9 hH ?_
   try simp only [qq]
   refine tq 10 hH ?_;refine uq 11 hH ?_
   try simp only [qq]
   refine uq 12 hH ?_;refine uq 13 hH ?_
   try simp only [qq]
   refine uq 14 hH ?_;refine uq 15 hH ?_
   try simp only [qq]
   refine uq 16 hH ?_;refine uq 17 hH ?_
   try simp only [qq]
   refine uq 18 hH ?_;refine uq 19 hH ?_
   try simp only [qq]
   refine uq 20 hH ?_;refine uq 21 hH ?_
   try simp only [qq]
   refine uq 22 hH ?_;refine uq 23 hH ?_
   try simp only [qq]
   refine uq 24 hH ?_;refine tq 25 hH ?_
   try simp only [qq]
   refine tq 26 hH ?_
   try simp only [qq]
   refine wpAnyH_done I1 ?_ _;have hB1:=bT HB.out HB1.out;have hz1:=Nat.le_trans hz HB1.out.size;rw [hx] at HS;have hd':Hid (∀ j,j<0+1->f_ fs j=true):=fun j hj=>by
    rcases Nat.lt_or_ge j 0 with h | h
    · exact hdone.out j h
    obtain rfl:j=0:=O0;exact HS.out
   clear hH;go_wp2;go_roundw
   case rel=>exact ⟨0+1,O0,by go_num,hB1,p0,hz1,hd'⟩
   case measure=>simp [intOf];omega
 obtain ⟨q,hq⟩:∃ q,q+1=k:=⟨k - 1,O0⟩;have g2:=(hb.cell (p:=⟨b,off+q*2,none⟩) hbw).trans (hcell q O0).1;have HS:Hid (f_ fs k=(a_ (fs.getD k L6)&&Op.bytesLess (fs.getD q L6).nm.toList (fs.getD k L6).nm.toList)):=by
  have e1:decide (k=0)=false:=decide_eq_false O0;have e2:k - 1=q:=O0;unfold f_;rw [e1,e2];rfl
 have hm0:(0:Int)<(k:Int):=O0;have hm1:=decide_eq_true hm0;generalize fs.getD k L6=x at*;generalize fs.getD q L6=y at*;have hwr:IntKind.i64.wrap ((k:Int) - 1)=(q:Int):=by rw [show (k:Int) - 1=(q:Int) by omega];exact ni q O0
 have YQ:(q:Int)<(fs.length:Int):=O0;clear hq;clear hcell hb;cases hx:a_ x
 · cases hy:Op.bytesLess y.nm.toList x.nm.toList
   · go_wp2_with fail
     refine wp_region_held_drew (S:=(fun u=>u.cell? ⟨w.heap.size,0,none⟩=some (.slice (some ⟨b,off,none⟩) fs.length cap)/\u.cell? ⟨b,off+k*2,none⟩=some (.string x.nm)/\u.cell? ⟨b,off+k*2+1,none⟩=some (.string x.tx)/\u.cell? ⟨b,off+q*2,none⟩=some (.string y.nm))) I1 ?_ fun hH=>?_
     · ((try dsimp only);go_keep)
     refine tq 0 hH ?_;refine tq 1 hH ?_
     try simp only [qq]
     refine tq 2 hH ?_;refine tq 3 hH ?_
     try simp only [qq]
     refine tq 4 hH ?_
     try simp only [qq]
     refine rq 5 fun K hK=>?_;go_simp;refine (Vx hx _ hsx.out).mono ?_;rintro e w1 ⟨rfl,hb1⟩;have HB1:Hid (Below wr.heap.size wr w1):=((Below.refl _ _).drew).trans hb1;have p0:=(HB1.out.cell (p:=⟨w.heap.size,0,none⟩) (by show w.heap.size<wr.heap.size;omega)).trans t0;have p1:=(HB1.out.cell (p:=⟨b,off+k*2,none⟩) hbr).trans g0;have p2:=(HB1.out.cell (p:=⟨b,off+k*2+1,none⟩) hbr).trans g1;have p3:=(HB1.out.cell (p:=⟨b,off+q*2,none⟩) hbr).trans g2
     go_wp2_with fail
     clear hH;refine hK.out _ _ ?_ fun hH=>?_
     · ((try dsimp only);go_keep)
     clear hK K;refine tq 6 hH ?_;refine tq 7 hH ?_
     try simp only [qq]
     refine uq 8 hH ?_;refine uq 9 hH ?_
     try simp only [qq]
     refine uq 10 hH ?_;refine uq 11 hH ?_
     try simp only [qq]
     refine uq 12 hH ?_;refine uq 13 hH ?_
     try simp only [qq]
     refine uq 14 hH ?_;refine uq 15 hH ?_
     try simp only [qq]
     refine uq 16 hH ?_;refine uq 17 hH ?_
     try simp only [qq]
     refine uq 18 hH ?_;refine uq 19 hH ?_
     try simp only [qq]
     refine uq 20 hH ?_;refine uq 21 hH ?_
     try simp only [qq]
     refine uq 22 hH ?_;refine uq 23 hH ?_
     try simp only [qq]
     refine uq 24 hH ?_;refine uq 25 hH ?_
     try simp only [qq]
     refine tq 26 hH ?_
     try simp only [qq]
     refine wpAnyH_done I1 ?_ _;have hB1:=bT HB.out HB1.out;rw [hx,hy] at HS;clear hH;go_wp2;go_ret;exact ⟨⟨false,rfl,by simp only [Bool.false_eq_true,false_iff];intro h;have:=h.2 _ hlt;rw [HS.out] at this;cases this⟩,hB1⟩
   go_wp2_with fail
   refine wp_region_held_drew (S:=(fun u=>u.cell? ⟨w.heap.size,0,none⟩=some (.slice (some ⟨b,off,none⟩) fs.length cap)/\u.cell? ⟨b,off+k*2,none⟩=some (.string x.nm)/\u.cell? ⟨b,off+k*2+1,none⟩=some (.string x.tx)/\u.cell? ⟨b,off+q*2,none⟩=some (.string y.nm))) I1 ?_ fun hH=>?_
   · ((try dsimp only);go_keep)
   refine tq 0 hH ?_;refine tq 1 hH ?_
   try simp only [qq]
   refine tq 2 hH ?_;refine tq 3 hH ?_
   try simp only [qq]
   refine tq 4 hH ?_
   try simp only [qq]
   refine rq 5 fun K hK=>?_;go_simp;refine (Vx hx _ hsx.out).mono ?_;rintro e w1 ⟨rfl,hb1⟩;have HB1:Hid (Below wr.heap.size wr w1):=((Below.refl _ _).drew).trans hb1;have p0:=(HB1.out.cell (p:=⟨w.heap.size,0,none⟩) (by show w.heap.size<wr.heap.size;omega)).trans t0;have p1:=(HB1.out.cell (p:=⟨b,off+k*2,none⟩) hbr).trans g0;have p2:=(HB1.out.cell (p:=⟨b,off+k*2+1,none⟩) hbr).trans g1;have p3:=(HB1.out.cell (p:=⟨b,off+q*2,none⟩) hbr).trans g2
   go_wp2_with fail
   clear hH;refine hK.out _ _ ?_ fun hH=>?_
   · ((try dsimp only);go_keep)
   clear hK K;refine tq 6 hH ?_;refine tq 7 hH ?_
   try simp only [qq]
   refine uq 8 hH ?_;refine uq 9 hH ?_
   try simp only [qq]
   refine uq 10 hH ?_;refine uq 11 hH ?_
   try simp only [qq]
   refine uq 12 hH ?_;refine uq 13 hH ?_
   try simp only [qq]
   refine uq 14 hH ?_;refine uq 15 hH ?_
   try simp only [qq]
   refine uq 16 hH ?_;refine uq 17 hH ?_
   try simp only [qq]
   refine uq 18 hH ?_;refine uq 19 hH ?_
   try simp only [qq]
   refine uq 20 hH ?_;refine uq 21 hH ?_
   try simp only [qq]
   refine uq 22 hH ?_;refine uq 23 hH ?_
   try simp only [qq]
   refine uq 24 hH ?_;refine uq 25 hH ?_
   try simp only [qq]
   refine tq 26 hH ?_
   try simp only [qq]
   refine wpAnyH_done I1 ?_ _;have hB1:=bT HB.out HB1.out;rw [hx,hy] at HS;clear hH;go_wp2;go_ret;exact ⟨⟨false,rfl,by simp only [Bool.false_eq_true,false_iff];intro h;have:=h.2 _ hlt;rw [HS.out] at this;cases this⟩,hB1⟩
 cases hy:Op.bytesLess y.nm.toList x.nm.toList
 · go_wp2_with fail
   refine wp_region_held_drew (S:=(fun u=>u.cell? ⟨w.heap.size,0,none⟩=some (.slice (some ⟨b,off,none⟩) fs.length cap)/\u.cell? ⟨b,off+k*2,none⟩=some (.string x.nm)/\u.cell? ⟨b,off+k*2+1,none⟩=some (.string x.tx)/\u.cell? ⟨b,off+q*2,none⟩=some (.string y.nm))) I1 ?_ fun hH=>?_
   · ((try dsimp only);go_keep)
   refine tq 0 hH ?_;refine tq 1 hH ?_
   try simp only [qq]
   refine tq 2 hH ?_;refine tq 3 hH ?_
   try simp only [qq]
   refine tq 4 hH ?_
   try simp only [qq]
   refine rq 5 fun K hK=>?_;go_simp;refine (Vx hx _ hsx.out).mono ?_;rintro e w1 ⟨rfl,hb1⟩;have HB1:Hid (Below wr.heap.size wr w1):=((Below.refl _ _).drew).trans hb1;have p0:=(HB1.out.cell (p:=⟨w.heap.size,0,none⟩) (by show w.heap.size<wr.heap.size;omega)).trans t0;have p1:=(HB1.out.cell (p:=⟨b,off+k*2,none⟩) hbr).trans g0;have p2:=(HB1.out.cell (p:=⟨b,off+k*2+1,none⟩) hbr).trans g1;have p3:=(HB1.out.cell (p:=⟨b,off+q*2,none⟩) hbr).trans g2
   go_wp2_with fail
   clear hH;refine hK.out _ _ ?_ fun hH=>?_
   · ((try dsimp only);go_keep)
   clear hK K;refine tq 6 hH ?_;refine tq 7 hH ?_
   try simp only [qq]
   refine tq 8 hH ?_;refine tq 9 hH ?_
   try simp only [qq]
   refine tq 10 hH ?_;refine tq 11 hH ?_
   try simp only [qq]
   refine tq 12 hH ?_;refine tq 13 hH ?_
   try simp only [qq]
   refine tq 14 hH ?_;refine tq 15 hH ?_
   try simp only [qq]
   refine tq 16 hH ?_;refine tq 17 hH ?_
   try simp only [qq]
   refine tq 18 hH ?_;refine tq 19 hH ?_
   try simp only [qq]
   refine tq 20 hH ?_;refine tq 21 hH ?_
   try simp only [qq]
   refine tq 22 hH ?_;refine tq 23 hH ?_
   try simp only [qq]
   refine tq 24 hH ?_;refine tq 25 hH ?_
   try simp only [qq]
   refine tq 26 hH ?_
   try simp only [qq]
   refine wpAnyH_done I1 ?_ _;have hB1:=bT HB.out HB1.out;rw [hx,hy] at HS;clear hH;go_wp2;go_ret;exact ⟨⟨false,rfl,by simp only [Bool.false_eq_true,false_iff];intro h;have:=h.2 _ hlt;rw [HS.out] at this;cases this⟩,hB1⟩
 go_wp2_with fail
 refine wp_region_held_drew (S:=(fun u=>u.cell? ⟨w.heap.size,0,none⟩=some (.slice (some ⟨b,off,none⟩) fs.length cap)/\u.cell? ⟨b,off+k*2,none⟩=some (.string x.nm)/\u.cell? ⟨b,off+k*2+1,none⟩=some (.string x.tx)/\u.cell? ⟨b,off+q*2,none⟩=some (.string y.nm))) I1 ?_ fun hH=>?_
 · ((try dsimp only);go_keep)
 refine tq 0 hH ?_;refine tq 1 hH ?_
 try simp only [qq]
 refine tq 2 hH ?_;refine tq 3 hH ?_
 try simp only [qq]
 refine tq 4 hH ?_
 try simp only [qq]
 refine rq 5 fun K hK=>?_;go_simp;refine (Vx hx _ hsx.out).mono ?_;rintro e w1 ⟨rfl,hb1⟩;have HB1:Hid (Below wr.heap.size wr w1):=((Below.refl _ _).drew).trans hb1;have p0:=(HB1.out.cell (p:=⟨w.heap.size,0,none⟩) (by show w.heap.size<wr.heap.size;omega)).trans t0;have p1:=(HB1.out.cell (p:=⟨b,off+k*2,none⟩) hbr).trans g0;have p2:=(HB1.out.cell (p:=⟨b,off+k*2+1,none⟩) hbr).trans g1;have p3:=(HB1.out.cell (p:=⟨b,off+q*2,none⟩) hbr).trans g2
 go_wp2_with fail
 clear hH;refine hK.out _ _ ?_ fun hH=>?_
 · ((try dsimp only);go_keep)
 clear hK K;refine tq 6 hH ?_;refine tq 7 hH ?_
 try simp only [qq]
 refine tq 8 hH ?_;refine tq 9 hH ?_
 try simp only [qq]
 refine tq 10 hH ?_;refine tq 11 hH ?_
 try simp only [qq]
 refine tq 12 hH ?_;refine tq 13 hH ?_
 try simp only [qq]
 refine tq 14 hH ?_;refine tq 15 hH ?_
 try simp only [qq]
 refine tq 16 hH ?_;refine tq 17 hH ?_
 try simp only [qq]
 refine tq 18 hH ?_;refine tq 19 hH ?_
 try simp only [qq]
 refine tq 20 hH ?_;refine tq 21 hH ?_
 try simp only [qq]
 refine tq 22 hH ?_;refine tq 23 hH ?_
 try simp only [qq]
 refine tq 24 hH ?_;refine tq 25 hH ?_
 try simp only [qq]
 refine tq 26 hH ?_
 try simp only [qq]
 refine wpAnyH_done I1 ?_ _;have hB1:=bT HB.out HB1.out;have hz1:=Nat.le_trans hz HB1.out.size;rw [hx,hy] at HS;have hd':Hid (∀ j,j<k+1->f_ fs j=true):=fun j hj=>by
  rcases Nat.lt_or_ge j k with h | h
  · exact hdone.out j h
  obtain rfl:j=k:=O0;exact HS.out
 clear hH;go_wp2;go_roundw
 case rel=>exact ⟨k+1,O0,by go_num,hB1,p0,hz1,hd'⟩
 case measure=>simp [intOf];omega
theorem c16 (a:Option Addr) (cap:Nat) (fs:List F2) (w:World) (hl:fs.length<=1048576) (hs:∀ i,(fs.getD i L6).le 1048576) (hat:U3 w a fs):
 Calls prog 16 #[.agg #[.slice a fs.length cap]] w fun e w'=>(∃ b:Bool,e=.returned (.bool b)/\(b=true↔Y3 fs))/\Below w.heap.size w w':=by
 obtain ⟨b,off,hc⟩:=U7 hat;have HC:=Q0 hc;clear hc hat;by_cases hbig:40<fs.length
 · go_enter func16,ntmps16
   go_wp2;go_ret;exact ⟨⟨false,rfl,by simp [Y3];omega⟩,bA⟩
 go_enter func16,ntmps16
 go_wp2_with fail
 go_loopw [12] (fun i wr=>∃ k:Nat,k<=fs.length/\i=.int .i64 k/\Below w.heap.size w wr/\wr.cell? ⟨w.heap.size,0,none⟩=some (.slice a fs.length cap)/\w.heap.size+1<=wr.heap.size/\Hid (∀ j,j<k->f_ fs j=true)) (fun i _=>fs.length - (intOf i).toNat)
 case atStart=>exact ⟨0,Nat.zero_le _,rfl,bA,U0,U0,fun j h=>absurd h (Nat.not_lt_zero _)⟩
 obtain ⟨k,hk,rfl,hb,t0,hz,hdone⟩:=hrel;by_cases hlt:k<fs.length;rotate_left
 · have hd':Hid (Y3 fs):=⟨O0,fun j hj=>hdone.out j O0⟩
   go_wp2;go_ret;exact ⟨⟨true,rfl,by simp only [true_iff];exact hd'.out⟩,hb⟩
 rcases HC.out with hss | ⟨ha,hbw,hcell⟩
 · rw [hss] at hlt;exact absurd hlt (Nat.not_lt_zero _)
 subst ha;have HB:=Q0 hb;have g0:=(hb.cell (p:=⟨b,off+k*2,none⟩) hbw).trans (hcell k hlt).1;have g1:=(hb.cell (p:=⟨b,off+k*2+1,none⟩) hbw).trans (hcell k hlt).2;have hbr:=Nat.lt_of_lt_of_le hbw hb.size;have hsx:Hid ((fs.getD k L6).le 1048700):=⟨Nat.le_trans (hs k).1 O0,Nat.le_trans (hs k).2 O0⟩;rcases Nat.eq_zero_or_pos k with h0 | h0
 · subst h0
   have HS:Hid (f_ fs 0=a_ (fs.getD 0 L6)):=by simp [f_,Hid]
   simp only [Nat.zero_mul,Nat.add_zero] at g0 g1;generalize fs.getD 0 L6=x at*;clear hcell hb;cases hx:a_ x
   · go_wp2_with fail
     have SL:Hid (Below wr.heap.size wr (wr.alloc (.cells #[.string x.nm,.string x.tx] 75))):=bA;have t1:=(SL.out.cell (p:=⟨w.heap.size,0,none⟩) (by show w.heap.size<wr.heap.size;omega)).trans t0;have f0:(wr.alloc (.cells #[.string x.nm,.string x.tx] 75)).cell? ⟨wr.heap.size,0,none⟩=some (.string x.nm):=U0;have f1:(wr.alloc (.cells #[.string x.nm,.string x.tx] 75)).cell? ⟨wr.heap.size,1,none⟩=some (.string x.tx):=U0;have aP:wr.heap.size<(wr.alloc (.cells #[.string x.nm,.string x.tx] 75)).heap.size:=U0;generalize (wr.alloc (.cells #[.string x.nm,.string x.tx] 75))=W at*;have NS:w.heap.size<W.heap.size:=O0;have hbW:b<W.heap.size:=O0;refine wp_region_held_drew (S:=(fun u=>u.cell? ⟨w.heap.size,0,none⟩=some (.slice (some ⟨b,off,none⟩) fs.length cap)/\u.cell? ⟨wr.heap.size,0,none⟩=some (.string x.nm)/\u.cell? ⟨wr.heap.size,1,none⟩=some (.string x.tx))) I1 ?_ fun hH=>?_
     · ((try dsimp only);go_keep)
     refine tq 0 hH ?_
     try simp only [qq]
     refine rq 1 fun K hK=>?_;go_simp;refine (Gw hx _ hsx.out).mono ?_;rintro e w1 ⟨rfl,hb1⟩;have HB1:Hid (Below W.heap.size W w1):=((Below.refl _ _).drew).trans hb1;have p0:=(HB1.out.cell (p:=⟨w.heap.size,0,none⟩) NS).trans t1;have p1:=(HB1.out.cell (p:=⟨wr.heap.size,0,none⟩) aP).trans f0;have p2:=(HB1.out.cell (p:=⟨wr.heap.size,1,none⟩) aP).trans f1
     go_wp2_with fail
     clear hH;refine hK.out _ _ ?_ fun hH=>?_
     · ((try dsimp only);go_keep)
     clear hK K;refine tq 2 hH ?_;refine tq 3 hH ?_
     try simp only [qq]
     refine uq 4 hH ?_;refine uq 5 hH ?_
     try simp only [qq]
     refine uq 6 hH ?_;refine uq 7 hH ?_
     try simp only [qq]
     refine uq 8 hH ?_;refine uq 9 hH ?_
     try simp only [qq]
     refine uq 10 hH ?_;refine uq 11 hH ?_
     try simp only [qq]
     refine uq 12 hH ?_;refine uq 13 hH ?_
     try simp only [qq]
     refine uq 14 hH ?_;refine uq 15 hH ?_
     try simp only [qq]
     refine uq 16 hH ?_;refine uq 17 hH ?_
     try simp only [qq]
     refine tq 18 hH ?_
     try simp only [qq]
     refine wpAnyH_done I1 ?_ _;have hB1:=HB.out.trans ((SL.out.trans (HB1.out.mono O0)).mono HB.out.size);rw [hx] at HS;clear hH;go_wp2;go_ret;exact ⟨⟨false,rfl,by simp only [Bool.false_eq_true,false_iff];intro h;have:=h.2 _ hlt;rw [HS.out] at this;cases this⟩,hB1⟩
   go_wp2_with fail
   have SL:Hid (Below wr.heap.size wr (wr.alloc (.cells #[.string x.nm,.string x.tx] 75))):=bA;have t1:=(SL.out.cell (p:=⟨w.heap.size,0,none⟩) (by show w.heap.size<wr.heap.size;omega)).trans t0;have f0:(wr.alloc (.cells #[.string x.nm,.string x.tx] 75)).cell? ⟨wr.heap.size,0,none⟩=some (.string x.nm):=U0;have f1:(wr.alloc (.cells #[.string x.nm,.string x.tx] 75)).cell? ⟨wr.heap.size,1,none⟩=some (.string x.tx):=U0;have aP:wr.heap.size<(wr.alloc (.cells #[.string x.nm,.string x.tx] 75)).heap.size:=U0;generalize (wr.alloc (.cells #[.string x.nm,.string x.tx] 75))=W at*;have NS:w.heap.size<W.heap.size:=O0;have hbW:b<W.heap.size:=O0;refine wp_region_held_drew (S:=(fun u=>u.cell? ⟨w.heap.size,0,none⟩=some (.slice (some ⟨b,off,none⟩) fs.length cap)/\u.cell? ⟨wr.heap.size,0,none⟩=some (.string x.nm)/\u.cell? ⟨wr.heap.size,1,none⟩=some (.string x.tx))) I1 ?_ fun hH=>?_
   · ((try dsimp only);go_keep)
   refine tq 0 hH ?_
   try simp only [qq]
   refine rq 1 fun K hK=>?_;go_simp;refine (Gw hx _ hsx.out).mono ?_;rintro e w1 ⟨rfl,hb1⟩;have HB1:Hid (Below W.heap.size W w1):=((Below.refl _ _).drew).trans hb1;have p0:=(HB1.out.cell (p:=⟨w.heap.size,0,none⟩) NS).trans t1;have p1:=(HB1.out.cell (p:=⟨wr.heap.size,0,none⟩) aP).trans f0;have p2:=(HB1.out.cell (p:=⟨wr.heap.size,1,none⟩) aP).trans f1
   go_wp2_with fail
   clear hH;refine hK.out _ _ ?_ fun hH=>?_
   · ((try dsimp only);go_keep)
   clear hK K;refine tq 2 hH ?_;refine tq 3 hH ?_
   try simp only [qq]
   refine tq 4 hH ?_;refine tq 5 hH ?_
   try simp only [qq]
   refine tq 6 hH ?_;refine uq 7 hH ?_
   try simp only [qq]
   refine uq 8 hH ?_;refine uq 9 hH ?_
   try simp only [qq]
   refine uq 10 hH ?_;refine uq 11 hH ?_
   try simp only [qq]
   refine uq 12 hH ?_;refine uq 13 hH ?_
   try simp only [qq]
   refine uq 14 hH ?_;refine uq 15 hH ?_
   try simp only [qq]
   refine uq 16 hH ?_;refine tq 17 hH ?_
   try simp only [qq]
   refine tq 18 hH ?_
   try simp only [qq]
   refine wpAnyH_done I1 ?_ _;have hB1:=HB.out.trans ((SL.out.trans (HB1.out.mono O0)).mono HB.out.size);have hz1:w.heap.size+1<=w1.heap.size:=by have:=HB1.out.size;omega
   rw [hx] at HS;have hd':Hid (∀ j,j<0+1->f_ fs j=true):=fun j hj=>by
    rcases Nat.lt_or_ge j 0 with h | h
    · exact hdone.out j h
    obtain rfl:j=0:=O0;exact HS.out
   clear hH;go_wp2;go_roundw
   case rel=>exact ⟨0+1,O0,by go_num,hB1,p0,hz1,hd'⟩
   case measure=>simp [intOf];omega
 obtain ⟨q,hq⟩:∃ q,q+1=k:=⟨k - 1,O0⟩;have g2:=(hb.cell (p:=⟨b,off+q*2,none⟩) hbw).trans (hcell q O0).1;have HS:Hid (f_ fs k=(a_ (fs.getD k L6)&&Op.bytesLess (fs.getD q L6).nm.toList (fs.getD k L6).nm.toList)):=by
  have e1:decide (k=0)=false:=decide_eq_false O0;have e2:k - 1=q:=O0;unfold f_;rw [e1,e2];rfl
 have hm0:(0:Int)<(k:Int):=O0;have hm1:=decide_eq_true hm0;generalize fs.getD k L6=x at*;generalize fs.getD q L6=y at*;have hwr:IntKind.i64.wrap ((k:Int) - 1)=(q:Int):=by rw [show (k:Int) - 1=(q:Int) by omega];exact ni q O0
 have YQ:(q:Int)<(fs.length:Int):=O0;clear hq;clear hcell hb;cases hx:a_ x
 · cases hy:Op.bytesLess y.nm.toList x.nm.toList
   · go_wp2_with fail
     have SL:Hid (Below wr.heap.size wr (wr.alloc (.cells #[.string x.nm,.string x.tx] 75))):=bA;have t1:=(SL.out.cell (p:=⟨w.heap.size,0,none⟩) (by show w.heap.size<wr.heap.size;omega)).trans t0;have y1:=(SL.out.cell (p:=⟨b,off+q*2,none⟩) hbr).trans g2;have f0:(wr.alloc (.cells #[.string x.nm,.string x.tx] 75)).cell? ⟨wr.heap.size,0,none⟩=some (.string x.nm):=U0;have f1:(wr.alloc (.cells #[.string x.nm,.string x.tx] 75)).cell? ⟨wr.heap.size,1,none⟩=some (.string x.tx):=U0;have aP:wr.heap.size<(wr.alloc (.cells #[.string x.nm,.string x.tx] 75)).heap.size:=U0;generalize (wr.alloc (.cells #[.string x.nm,.string x.tx] 75))=W at*;have NS:w.heap.size<W.heap.size:=O0;have hbW:b<W.heap.size:=O0;refine wp_region_held_drew (S:=(fun u=>u.cell? ⟨w.heap.size,0,none⟩=some (.slice (some ⟨b,off,none⟩) fs.length cap)/\u.cell? ⟨wr.heap.size,0,none⟩=some (.string x.nm)/\u.cell? ⟨wr.heap.size,1,none⟩=some (.string x.tx)/\u.cell? ⟨b,off+q*2,none⟩=some (.string y.nm))) I1 ?_ fun hH=>?_
     · ((try dsimp only);go_keep)
     refine tq 0 hH ?_
     try simp only [qq]
     refine rq 1 fun K hK=>?_;go_simp;refine (Gw hx _ hsx.out).mono ?_;rintro e w1 ⟨rfl,hb1⟩;have HB1:Hid (Below W.heap.size W w1):=((Below.refl _ _).drew).trans hb1;have p0:=(HB1.out.cell (p:=⟨w.heap.size,0,none⟩) NS).trans t1;have p1:=(HB1.out.cell (p:=⟨wr.heap.size,0,none⟩) aP).trans f0;have p2:=(HB1.out.cell (p:=⟨wr.heap.size,1,none⟩) aP).trans f1;have p3:=(HB1.out.cell (p:=⟨b,off+q*2,none⟩) hbW).trans y1
     go_wp2_with fail
     clear hH;refine hK.out _ _ ?_ fun hH=>?_
     · ((try dsimp only);go_keep)
     clear hK K;refine tq 2 hH ?_;refine tq 3 hH ?_
     try simp only [qq]
     refine uq 4 hH ?_;refine uq 5 hH ?_
     try simp only [qq]
     refine uq 6 hH ?_;refine uq 7 hH ?_
     try simp only [qq]
     refine uq 8 hH ?_;refine uq 9 hH ?_
     try simp only [qq]
     refine uq 10 hH ?_;refine uq 11 hH ?_
     try simp only [qq]
     refine uq 12 hH ?_;refine uq 13 hH ?_
     try simp only [qq]
     refine uq 14 hH ?_;refine uq 15 hH ?_
     try simp only [qq]
     refine uq 16 hH ?_;refine uq 17 hH ?_
     try simp only [qq]
     refine tq 18 hH ?_
     try simp only [qq]
     refine wpAnyH_done I1 ?_ _;have hB1:=HB.out.trans ((SL.out.trans (HB1.out.mono O0)).mono HB.out.size);rw [hx,hy] at HS;clear hH;go_wp2;go_ret;exact ⟨⟨false,rfl,by simp only [Bool.false_eq_true,false_iff];intro h;have:=h.2 _ hlt;rw [HS.out] at this;cases this⟩,hB1⟩
   go_wp2_with fail
   have SL:Hid (Below wr.heap.size wr (wr.alloc (.cells #[.string x.nm,.string x.tx] 75))):=bA;have t1:=(SL.out.cell (p:=⟨w.heap.size,0,none⟩) (by show w.heap.size<wr.heap.size;omega)).trans t0;have y1:=(SL.out.cell (p:=⟨b,off+q*2,none⟩) hbr).trans g2;have f0:(wr.alloc (.cells #[.string x.nm,.string x.tx] 75)).cell? ⟨wr.heap.size,0,none⟩=some (.string x.nm):=U0;have f1:(wr.alloc (.cells #[.string x.nm,.string x.tx] 75)).cell? ⟨wr.heap.size,1,none⟩=some (.string x.tx):=U0;have aP:wr.heap.size<(wr.alloc (.cells #[.string x.nm,.string x.tx] 75)).heap.size:=U0;generalize (wr.alloc (.cells #[.string x.nm,.string x.tx] 75))=W at*;have NS:w.heap.size<W.heap.size:=O0;have hbW:b<W.heap.size:=O0;refine wp_region_held_drew (S:=(fun u=>u.cell? ⟨w.heap.size,0,none⟩=some (.slice (some ⟨b,off,none⟩) fs.length cap)/\u.cell? ⟨wr.heap.size,0,none⟩=some (.string x.nm)/\u.cell? ⟨wr.heap.size,1,none⟩=some (.string x.tx)/\u.cell? ⟨b,off+q*2,none⟩=some (.string y.nm))) I1 ?_ fun hH=>?_
   · ((try dsimp only);go_keep)
   refine tq 0 hH ?_
   try simp only [qq]
   refine rq 1 fun K hK=>?_;go_simp;refine (Gw hx _ hsx.out).mono ?_;rintro e w1 ⟨rfl,hb1⟩;have HB1:Hid (Below W.heap.size W w1):=((Below.refl _ _).drew).trans hb1;have p0:=(HB1.out.cell (p:=⟨w.heap.size,0,none⟩) NS).trans t1;have p1:=(HB1.out.cell (p:=⟨wr.heap.size,0,none⟩) aP).trans f0;have p2:=(HB1.out.cell (p:=⟨wr.heap.size,1,none⟩) aP).trans f1;have p3:=(HB1.out.cell (p:=⟨b,off+q*2,none⟩) hbW).trans y1
   go_wp2_with fail
   clear hH;refine hK.out _ _ ?_ fun hH=>?_
   · ((try dsimp only);go_keep)
   clear hK K;refine tq 2 hH ?_;refine tq 3 hH ?_
   try simp only [qq]
   refine uq 4 hH ?_;refine uq 5 hH ?_
   try simp only [qq]
   refine uq 6 hH ?_;refine uq 7 hH ?_
   try simp only [qq]
   refine uq 8 hH ?_;refine uq 9 hH ?_
   try simp only [qq]
   refine uq 10 hH ?_;refine uq 11 hH ?_
   try simp only [qq]
   refine uq 12 hH ?_;refine uq 13 hH ?_
   try simp only [qq]
   refine uq 14 hH ?_;refine uq 15 hH ?_
   try simp only [qq]
   refine uq 16 hH ?_;refine uq 17 hH ?_
   try simp only [qq]
   refine tq 18 hH ?_
   try simp only [qq]
   refine wpAnyH_done I1 ?_ _;have hB1:=HB.out.trans ((SL.out.trans (HB1.out.mono O0)).mono HB.out.size);rw [hx,hy] at HS;clear hH;go_wp2;go_ret;exact ⟨⟨false,rfl,by simp only [Bool.false_eq_true,false_iff];intro h;have:=h.2 _ hlt;rw [HS.out] at this;cases this⟩,hB1⟩
 cases hy:Op.bytesLess y.nm.toList x.nm.toList
 · go_wp2_with fail
   have SL:Hid (Below wr.heap.size wr (wr.alloc (.cells #[.string x.nm,.string x.tx] 75))):=bA;have t1:=(SL.out.cell (p:=⟨w.heap.size,0,none⟩) (by show w.heap.size<wr.heap.size;omega)).trans t0;have y1:=(SL.out.cell (p:=⟨b,off+q*2,none⟩) hbr).trans g2;have f0:(wr.alloc (.cells #[.string x.nm,.string x.tx] 75)).cell? ⟨wr.heap.size,0,none⟩=some (.string x.nm):=U0;have f1:(wr.alloc (.cells #[.string x.nm,.string x.tx] 75)).cell? ⟨wr.heap.size,1,none⟩=some (.string x.tx):=U0;have aP:wr.heap.size<(wr.alloc (.cells #[.string x.nm,.string x.tx] 75)).heap.size:=U0;generalize (wr.alloc (.cells #[.string x.nm,.string x.tx] 75))=W at*;have NS:w.heap.size<W.heap.size:=O0;have hbW:b<W.heap.size:=O0;refine wp_region_held_drew (S:=(fun u=>u.cell? ⟨w.heap.size,0,none⟩=some (.slice (some ⟨b,off,none⟩) fs.length cap)/\u.cell? ⟨wr.heap.size,0,none⟩=some (.string x.nm)/\u.cell? ⟨wr.heap.size,1,none⟩=some (.string x.tx)/\u.cell? ⟨b,off+q*2,none⟩=some (.string y.nm))) I1 ?_ fun hH=>?_
   · ((try dsimp only);go_keep)
   refine tq 0 hH ?_
   try simp only [qq]
   refine rq 1 fun K hK=>?_;go_simp;refine (Gw hx _ hsx.out).mono ?_;rintro e w1 ⟨rfl,hb1⟩;have HB1:Hid (Below W.heap.size W w1):=((Below.refl _ _).drew).trans hb1;have p0:=(HB1.out.cell (p:=⟨w.heap.size,0,none⟩) NS).trans t1;have p1:=(HB1.out.cell (p:=⟨wr.heap.size,0,none⟩) aP).trans f0;have p2:=(HB1.out.cell (p:=⟨wr.heap.size,1,none⟩) aP).trans f1;have p3:=(HB1.out.cell (p:=⟨b,off+q*2,none⟩) hbW).trans y1
   go_wp2_with fail
   clear hH;refine hK.out _ _ ?_ fun hH=>?_
   · ((try dsimp only);go_keep)
   clear hK K;refine tq 2 hH ?_;refine tq 3 hH ?_
   try simp only [qq]
   refine tq 4 hH ?_;refine tq 5 hH ?_
   try simp only [qq]
   refine tq 6 hH ?_;refine tq 7 hH ?_
   try simp only [qq]
   refine tq 8 hH ?_;refine tq 9 hH ?_
   try simp only [qq]
   refine tq 10 hH ?_;refine tq 11 hH ?_
   try simp only [qq]
   refine tq 12 hH ?_;refine tq 13 hH ?_
   try simp only [qq]
   refine tq 14 hH ?_;refine tq 15 hH ?_
   try simp only [qq]
   refine tq 16 hH ?_;refine tq 17 hH ?_
   try simp only [qq]
   refine tq 18 hH ?_
   try simp only [qq]
   refine wpAnyH_done I1 ?_ _;have hB1:=HB.out.trans ((SL.out.trans (HB1.out.mono O0)).mono HB.out.size);rw [hx,hy] at HS;clear hH;go_wp2;go_ret;exact ⟨⟨false,rfl,by simp only [Bool.false_eq_true,false_iff];intro h;have:=h.2 _ hlt;rw [HS.out] at this;cases this⟩,hB1⟩
 go_wp2_with fail
 have SL:Hid (Below wr.heap.size wr (wr.alloc (.cells #[.string x.nm,.string x.tx] 75))):=bA;have t1:=(SL.out.cell (p:=⟨w.heap.size,0,none⟩) (by show w.heap.size<wr.heap.size;omega)).trans t0;have y1:=(SL.out.cell (p:=⟨b,off+q*2,none⟩) hbr).trans g2;have f0:(wr.alloc (.cells #[.string x.nm,.string x.tx] 75)).cell? ⟨wr.heap.size,0,none⟩=some (.string x.nm):=U0;have f1:(wr.alloc (.cells #[.string x.nm,.string x.tx] 75)).cell? ⟨wr.heap.size,1,none⟩=some (.string x.tx):=U0;have aP:wr.heap.size<(wr.alloc (.cells #[.string x.nm,.string x.tx] 75)).heap.size:=U0;generalize (wr.alloc (.cells #[.string x.nm,.string x.tx] 75))=W at*;have NS:w.heap.size<W.heap.size:=O0;have hbW:b<W.heap.size:=O0;refine wp_region_held_drew (S:=(fun u=>u.cell? ⟨w.heap.size,0,none⟩=some (.slice (some ⟨b,off,none⟩) fs.length cap)/\u.cell? ⟨wr.heap.size,0,none⟩=some (.string x.nm)/\u.cell? ⟨wr.heap.size,1,none⟩=some (.string x.tx)/\u.cell? ⟨b,off+q*2,none⟩=some (.string y.nm))) I1 ?_ fun hH=>?_
 · ((try dsimp only);go_keep)
 refine tq 0 hH ?_
 try simp only [qq]
 refine rq 1 fun K hK=>?_;go_simp;refine (Gw hx _ hsx.out).mono ?_;rintro e w1 ⟨rfl,hb1⟩;have HB1:Hid (Below W.heap.size W w1):=((Below.refl _ _).drew).trans hb1;have p0:=(HB1.out.cell (p:=⟨w.heap.size,0,none⟩) NS).trans t1;have p1:=(HB1.out.cell (p:=⟨wr.heap.size,0,none⟩) aP).trans f0;have p2:=(HB1.out.cell (p:=⟨wr.heap.size,1,none⟩) aP).trans f1;have p3:=(HB1.out.cell (p:=⟨b,off+q*2,none⟩) hbW).trans y1
 go_wp2_with fail
 clear hH;refine hK.out _ _ ?_ fun hH=>?_
 · ((try dsimp only);go_keep)
 clear hK K;refine tq 2 hH ?_;refine tq 3 hH ?_
 try simp only [qq]
 refine tq 4 hH ?_;refine tq 5 hH ?_
 try simp only [qq]
 refine tq 6 hH ?_;refine tq 7 hH ?_
 try simp only [qq]
 refine tq 8 hH ?_;refine tq 9 hH ?_
 try simp only [qq]
 refine tq 10 hH ?_;refine tq 11 hH ?_
 try simp only [qq]
 refine tq 12 hH ?_;refine tq 13 hH ?_
 try simp only [qq]
 refine tq 14 hH ?_;refine tq 15 hH ?_
 try simp only [qq]
 refine tq 16 hH ?_;refine tq 17 hH ?_
 try simp only [qq]
 refine tq 18 hH ?_
 try simp only [qq]
 refine wpAnyH_done I1 ?_ _;have hB1:=HB.out.trans ((SL.out.trans (HB1.out.mono O0)).mono HB.out.size);have hz1:w.heap.size+1<=w1.heap.size:=by have:=HB1.out.size;omega
 rw [hx,hy] at HS;have hd':Hid (∀ j,j<k+1->f_ fs j=true):=fun j hj=>by
  rcases Nat.lt_or_ge j k with h | h
  · exact hdone.out j h
  obtain rfl:j=k:=O0;exact HS.out
 clear hH;go_wp2;go_roundw
 case rel=>exact ⟨k+1,O0,by go_num,hB1,p0,hz1,hd'⟩
 case measure=>simp [intOf];omega
structure But (b:Nat) (w w':World):Prop where
 os:w'.os=w.os
 tape:w'.tape=w.tape
 output:w'.output=w.output
 size:w.heap.size<=w'.heap.size
 block:∀ k,k<w.heap.size->k≠b->w'.heap[k]?=w.heap[k]?
theorem But.refl (b:Nat) (w:World):But b w w:=⟨rfl,rfl,rfl,Nat.le_refl _,fun _ _ _=>rfl⟩
theorem But.of_below {b:Nat} {w w':World} (h:Below w.heap.size w w'):But b w w':=⟨h.os,h.tape,h.output,h.size,fun k hk _=>h.block k hk⟩
theorem But.below {b B:Nat} {w w':World} (h:But b w w') (hB:B<=b) (hz:B<=w.heap.size):Below B w w':=⟨h.os,h.tape,h.output,h.size,fun k hk=>h.block k O0 O0⟩
theorem But.cell {b:Nat} {w w':World} (h:But b w w') {p:Addr} (hp:p.block<w.heap.size) (hne:p.block≠b):w'.cell? p=w.cell? p:=by
 unfold World.cell?;rw [h.block p.block hp hne]
theorem Mv:∀ (a b:List UInt8),Lib.compareBytes a b<0↔Op.bytesLess a b=true
 | [],[]=>by simp [Lib.compareBytes,Op.bytesLess]
 | [],_::_=>by simp [Lib.compareBytes,Op.bytesLess]
 | _::_,[]=>by simp [Lib.compareBytes,Op.bytesLess]
 | x::a,y::b=>by
  have ih:=Mv a b;simp only [Lib.compareBytes,Op.bytesLess];by_cases h1:x<y
  · simp [h1]
  by_cases h2:y<x
  · have h3:¬ x=y:=fun e=>by subst e;exact UInt8.lt_irrefl x h2
    simp [h1,h2,h3]
  have h3:=UInt8.le_antisymm (UInt8.not_lt.1 h2) (UInt8.not_lt.1 h1);subst h3;simp [h1,ih]
theorem Ps:∀ (a b:List UInt8),Lib.compareBytes a b=0↔a=b
 | [],[]=>by simp [Lib.compareBytes]
 | [],_::_=>by simp [Lib.compareBytes]
 | _::_,[]=>by simp [Lib.compareBytes]
 | x::a,y::b=>by
  have ih:=Ps a b;simp only [Lib.compareBytes];by_cases h1:x<y
  · have h3:¬ x=y:=fun e=>by subst e;exact UInt8.lt_irrefl x h1
    simp [h1,h3]
  by_cases h2:y<x
  · have h3:¬ x=y:=fun e=>by subst e;exact UInt8.lt_irrefl x h2
    simp [h1,h2,h3]
  have h3:=UInt8.le_antisymm (UInt8.not_lt.1 h2) (UInt8.not_lt.1 h1);subst h3;simp [h1,ih]
def lt (a b:ByteArray):Bool:=Op.bytesLess a.toList b.toList
def Mg (a b:ByteArray):Int:=Lib.compareBytes a.data.toList b.data.toList
theorem Cc (a b:ByteArray):Mg a b<0↔lt a b=true:=by
 unfold Mg lt;rw [Mv,ByteArray.toList_eq,ByteArray.toList_eq]
theorem uj (a b:ByteArray):Mg a b=0↔a=b:=by
 unfold Mg;rw [Ps];exact ⟨fun h=>ByteArray.ext (Array.toList_inj.1 h),fun h=>by rw [h]⟩
theorem c72 (a b:ByteArray) (w:World):
 Calls prog 72 #[.string a,.string b] w fun e w'=>e=.returned (.int .i64 (Mg a b))/\w'=w:=by
 have hrun:∀ u:World,(callFunc 113 #[.string a,.string b]).run prog u=.ok (.value (.int .i64 (Mg a b))) u:=fun u=>by
  rw [run_callFunc_extern func113 I1 I1 I1 (e:=Extern.BytealgCompare.compare) I1,Lib.run_compareString];rfl
 go_enter func72,ntmps72;go_wp2;go_ret;exact ⟨rfl,rfl⟩
theorem xH (a b:ByteArray) (w:World):
 Calls prog 38 #[.string a,.string b] w fun e w'=>e=.returned (.int .i64 (Mg a b))/\w'=w:=by
 go_enter func38,ntmps38
 go_wp2_with fail
 refine (c72 a b _).mono ?_;rintro e w1 ⟨rfl,hw⟩;obtain rfl:=hw.symm;go_wp2;go_ret;exact ⟨rfl,rfl⟩
theorem c146 (x:F2) (b:ByteArray) (w:World):
 Calls prog 146 #[.agg #[.string x.nm,.string x.tx],.string b] w fun e w'=>e=.returned (.int .i64 (Mg x.nm b))/\Below w.heap.size w w':=by
 go_enter func146,ntmps146
 go_wp2_with fail
 refine (xH x.nm b _).mono ?_;rintro e w1 ⟨rfl,hw⟩;obtain rfl:=hw.symm;go_wp2;go_ret;exact ⟨rfl,bA⟩
theorem Te:∀ (a b c:List UInt8),Op.bytesLess a b=true->Op.bytesLess b c=true->Op.bytesLess a c=true
 | _,[],_,h,_=>by simp [Op.bytesLess] at h
 | _,_::_,[],_,h=>by simp [Op.bytesLess] at h
 | [],_::_,_::_,_,_=>by simp [Op.bytesLess]
 | x::a,y::b,z::c,h,k=>by
  have ih:=Te a b c;simp only [Op.bytesLess,Bool.or_eq_true,Bool.and_eq_true,decide_eq_true_eq,beq_iff_eq] at h k ⊢;rcases h with h | ⟨rfl,h⟩
  · rcases k with k | ⟨rfl,k⟩
    · exact .inl (UInt8.lt_trans h k)
    exact .inl h
  rcases k with k | ⟨rfl,k⟩
  · exact .inl k
  exact .inr ⟨rfl,ih h k⟩
theorem uk:∀ (a:List UInt8),Op.bytesLess a a=false
 | []=>by simp [Op.bytesLess]
 | x::a=>by simp [Op.bytesLess,uk a]
theorem R9 {a b c:ByteArray} (h:lt a b=true) (k:lt b c=true):lt a c=true:=Te _ _ _ h k
theorem h_ (a:ByteArray):lt a a=false:=uk _
structure Place (fs:List F2) (t:ByteArray) (p:Nat) (f:Bool):Prop where
 le:p<=fs.length
 less:∀ j,j<p->lt (fs.getD j L6).nm t=true
 more:∀ j,p<=j->j<fs.length->lt (fs.getD j L6).nm t=false
 here:f=true↔p<fs.length/\(fs.getD p L6).nm=t
def Asc (fs:List F2):Prop:=∀ i j,i<j->j<fs.length->lt (fs.getD i L6).nm (fs.getD j L6).nm=true
def Half (fs:List F2) (t:ByteArray) (i j:Nat):Prop:=(∀ q,q<i->lt (fs.getD q L6).nm t=true)/\∀ q,j<=q->q<fs.length->lt (fs.getD q L6).nm t=false
theorem XC {fs:List F2} {t:ByteArray} {i j h:Nat} (hm:Asc fs) (hh:Half fs t i j) (hl:h<fs.length) (hx:lt (fs.getD h L6).nm t=true):Half fs t (h+1) j:=by
 refine ⟨fun q hq=>?_,hh.2⟩;rcases Nat.lt_or_ge q h with h1 | h1
 · exact R9 (hm q h h1 hl) hx
 obtain rfl:q=h:=O0;exact hx
theorem Fy {fs:List F2} {t:ByteArray} {i j h:Nat} (hm:Asc fs) (hh:Half fs t i j) (hx:lt (fs.getD h L6).nm t=false):Half fs t i h:=by
 refine ⟨hh.1,fun q hq hl=>?_⟩;rcases Nat.lt_or_ge h q with h1 | h1
 · cases hc:lt (fs.getD q L6).nm t
   · rfl
   rw [R9 (hm h q h1 hl) hc] at hx;cases hx
 obtain rfl:q=h:=O0;exact hx
theorem c145 (a:Option Addr) (cap:Nat) (fs:List F2) (t:ByteArray) (w:World) (hl:fs.length<=40) (hat:U3 w a fs) (hm:Asc fs):
 Calls prog 145 #[.slice a fs.length cap,.string t,.func (.func 146) #[] #[]] w fun e w'=>(∃ p f,e=.returned (.tuple #[.int .i64 (p:Nat),.bool f])/\Place fs t p f)/\Below w.heap.size w w':=by
 obtain ⟨b,off,hc⟩:=U7 hat;have HC:=Q0 hc;have HM:=Q0 hm;clear hc hat hm;go_enter func145,ntmps145
 go_wp2_with fail
 go_loopw [9,10] (fun vi vj wr=>∃ i j:Nat,i<=j/\j<=fs.length/\vi=.int .i64 i/\vj=.int .i64 j/\Below w.heap.size w wr/\Hid (Half fs t i j)) (fun vi vj _=>(intOf vj).toNat - (intOf vi).toNat)
 case atStart=>exact ⟨0,fs.length,Nat.zero_le _,Nat.le_refl _,rfl,rfl,Below.refl _ _,⟨fun q h=>absurd h (Nat.not_lt_zero _),fun q h k=>O0⟩⟩
 obtain ⟨i,j,hij,hj,rfl,rfl,hb,hh⟩:=hrel;by_cases hlt:i<j;rotate_left
 · obtain rfl:i=j:=O0
   by_cases hin:i<fs.length;rotate_left
   · have HP:Hid (Place fs t i false):=⟨O0,hh.out.1,hh.out.2,X3⟩
     have hd:decide ((i:Int)<(fs.length:Int))=false:=decide_eq_false O0;go_wp2
     all_goals go_ret2
     all_goals exact ⟨⟨i,false,rfl,HP.out⟩,hb⟩
   rcases HC.out with hss | ⟨ha,hbw,hcell⟩
   · rw [hss] at hin;exact absurd hin (Nat.not_lt_zero _)
   subst ha;have g0:=(hb.cell (p:=⟨b,off+i*2,none⟩) hbw).trans (hcell i hin).1;have g1:=(hb.cell (p:=⟨b,off+i*2+1,none⟩) hbw).trans (hcell i hin).2;have HP:Hid (∀ f:Bool,(f=true↔(fs.getD i L6).nm=t)->Place fs t i f):=fun f hf=>⟨O0,hh.out.1,hh.out.2,hf.trans ⟨fun h=>⟨hin,h⟩,fun h=>h.2⟩⟩;generalize fs.getD i L6=x at*;clear hcell
   go_wp2_with fail
   refine (c146 x t wr).mono ?_;rintro e w1 ⟨rfl,hb1⟩;have hB1:=bT hb hb1;go_wp2
   all_goals go_ret2
   all_goals exact ⟨⟨i,_,rfl,HP.out _ (by rw [<- uj];simp)⟩,hB1⟩
 rcases HC.out with hss | ⟨ha,hbw,hcell⟩
 · rw [hss] at hj;simp at hj;omega
 subst ha;have vV:(i+j) / 2<fs.length:=O0;have g0:=(hb.cell (p:=⟨b,off+(i+j) / 2*2,none⟩) hbw).trans (hcell _ vV).1;have g1:=(hb.cell (p:=⟨b,off+(i+j) / 2*2+1,none⟩) hbw).trans (hcell _ vV).2;have HU:Hid (lt (fs.getD ((i+j) / 2) L6).nm t=true->Half fs t ((i+j) / 2+1) j):=fun hx=>XC HM.out hh.out vV hx;have HD:Hid (lt (fs.getD ((i+j) / 2) L6).nm t=false->Half fs t i ((i+j) / 2)):=fun hx=>Fy HM.out hh.out hx;generalize fs.getD ((i+j) / 2) L6=x at*;clear hcell
 go_wp2_with fail
 refine (c146 x t wr).mono ?_;rintro e w1 ⟨rfl,hb1⟩;have hB1:=bT hb hb1;cases hx:lt x.nm t
 · have hc:¬ Mg x.nm t<0:=fun h=>by rw [(Cc _ _).1 h] at hx;cases hx
   have hc1:=decide_eq_false hc;have hn:=Q0 (HD.out hx);clear hx hb1 HU HD;go_wp2;go_roundw
   case rel=>exact ⟨i,(i+j) / 2,O0,O0,rfl,by go_num,hB1,hn⟩
   case measure=>simp [intOf];omega
 have hc:=(Cc _ _).2 hx;have hn:=Q0 (HU.out hx);clear hx hb1 HU HD;go_wp2;go_roundw
 case rel=>exact ⟨(i+j) / 2+1,j,O0,O0,by go_num,rfl,hB1,hn⟩
 case measure=>simp [intOf];omega
theorem TF (a:Option Addr) (cap:Nat) (fs:List F2) (t:ByteArray) (w:World) (hl:fs.length<=40) (hat:U3 w a fs) (hm:Asc fs):
 Calls prog 115 #[.agg #[.slice a fs.length cap],.string t] w fun e w'=>(∃ p f,e=.returned (.tuple #[.int .i64 (p:Nat),.bool f])/\Place fs t p f)/\Below w.heap.size w w':=by
 have HA:=Q0 hat;have HM:=Q0 hm;have hB0:Below w.heap.size w (w.alloc (.cells #[.slice a fs.length cap] 25)):=bA;clear hat hm;go_enter func115,ntmps115
 go_wp2_with fail
 refine (c145 a cap fs t _ hl (X0 HA.out hB0) HM.out).mono ?_;rintro e w1 ⟨⟨p,f,rfl,hp⟩,hb1⟩;have HP:=Q0 hp;clear hp;go_wp2;go_ret2;exact ⟨⟨p,f,rfl,HP.out⟩,bT hB0 hb1⟩
theorem Gm {fs:List F2} (h:Y3 fs):Asc fs:=by
 have step:∀ j,j+1<fs.length->lt (fs.getD j L6).nm (fs.getD (j+1) L6).nm=true:=fun j hj=>by
  have:=h.2 (j+1) hj;unfold f_ at this;simp only [Bool.and_eq_true,Bool.or_eq_true,decide_eq_true_eq] at this;rcases this.2 with h | h
  · omega
  exact h
 intro i j hij
 induction j with
 | zero=>omega
 | succ j ih=>
  intro hj;rcases Nat.lt_or_ge i j with h1 | h1
  · exact R9 (ih h1 O0) (step j hj)
  obtain rfl:i=j:=O0;exact step i hj
theorem BI (a:Option Addr) (cap:Nat) (fs:List F2) (nm:ByteArray) (w:World) (hl:fs.length<=1048576) (hat:U3 w a fs):
 Calls prog 83 #[.agg #[.slice a fs.length cap],.string nm] w fun e w'=>(∃ r:Int,e=.returned (.int .i64 r)/\((r=-1/\∀ i,i<fs.length->(fs.getD i L6).nm≠nm)\/∃ i:Nat,r=i/\i<fs.length/\(fs.getD i L6).nm=nm))/\Below w.heap.size w w':=by
 obtain ⟨b,off,hc⟩:=U7 hat;have HC:=Q0 hc;have HB:Below w.heap.size w (w.alloc (.cells #[.slice a fs.length cap] 25)):=bA;clear hc hat;go_enter func83,ntmps83
 go_wp2_with fail
 go_loop [5] (fun i=>∃ k:Nat,k<=fs.length/\i=.int .i64 k/\Hid (∀ j,j<k->(fs.getD j L6).nm≠nm)) (fun i=>fs.length - (intOf i).toNat)
 case atStart=>exact ⟨0,Nat.zero_le _,rfl,fun j h=>absurd h (Nat.not_lt_zero _)⟩
 obtain ⟨k,hk,rfl,hno⟩:=hrel;by_cases hlt:k<fs.length;rotate_left
 · go_wp2
   go_ret;exact ⟨⟨-1,rfl,.inl ⟨rfl,fun i hi=>hno.out i O0⟩⟩,HB⟩
 rcases HC.out with hss | ⟨ha,hbw,hcell⟩
 · rw [hss] at hlt;exact absurd hlt (Nat.not_lt_zero _)
 subst ha;have g0:=(HB.cell (p:=⟨b,off+k*2,none⟩) hbw).trans (hcell k hlt).1;have HX:Hid (∃ x,x=fs.getD k L6):=⟨_,rfl⟩;obtain ⟨x,hx⟩:=HX.out;rw [<- hx] at g0;have HXE:=Q0 hx;clear hcell hx HX;cases hq:(x.nm.toList==nm.toList)
 · have hno':Hid (∀ j,j<k+1->(fs.getD j L6).nm≠nm):=fun j hj=>by
    rcases Nat.lt_or_ge j k with h | h
    · exact hno.out j h
    obtain rfl:j=k:=O0;rw [<- HXE.out];intro e;rw [e] at hq;simp at hq
   go_wp2
   go_round
   case rel=>exact ⟨k+1,O0,by go_num,hno'⟩
   case measure=>simp [intOf];omega
 have he:x.nm=nm:=by
  have:=beq_iff_eq.1 hq;rw [ByteArray.toList_eq,ByteArray.toList_eq] at this;exact ByteArray.ext (Array.toList_inj.1 this)
 have HR:Hid (∃ i:Nat,(k:Int)=i/\i<fs.length/\(fs.getD i L6).nm=nm):=⟨k,rfl,hlt,by rw [<- HXE.out];exact he⟩;clear he;go_wp2;go_ret;exact ⟨⟨_,rfl,.inr HR.out⟩,HB⟩
end Go.Proofs.YtdpoaadafcaffaaGreatDoor.G.T
