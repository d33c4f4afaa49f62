import Derived.Test.YtlckdgjfniglfaaGreatDooreJ7
import Derived.Test.YtlckdgjfniglfaaGreatDoorK1
import Derived.Lib.Bytealg
set_option maxRecDepth 100000
set_option maxHeartbeats 8000000
set_option linter.unusedVariables false
set_option linter.unusedSimpArgs false
namespace Go.Proofs.YtlckdgjfniglfaaGreatDoor.T
open Proofs.Tryz
open Go.RowKit
theorem wrap_nat (q:Nat) (h:q<1048577):IntKind.i64.wrap (q:Int)=(q:Int):=by
 have h1:(q:Int) % 2^64=q:=om_;simp only [IntKind.wrap,IntKind.bits,IntKind.signed,h1];rw [if_neg so_]
structure F2 where
 nm:ByteArray
 tx:ByteArray
def f2z:F2:=⟨⟨#[]⟩,⟨#[]⟩⟩
def FilesAt (w:World) (a:Option Addr) (rs:List F2):Prop:=
 rs=[]\/∃ b off,a=some ⟨b,off,none⟩/\b<w.heap.size/\∀ i,i<rs.length->w.cell? ⟨b,off+i*2,none⟩=some (.string (rs.getD i f2z).nm)/\w.cell? ⟨b,off+i*2+1,none⟩=some (.string (rs.getD i f2z).tx)
theorem files_some {w:World} {a:Option Addr} {rs:List F2} (h:FilesAt w a rs):∃ b off,(rs=[]\/(a=some ⟨b,off,none⟩/\b<w.heap.size/\∀ i,i<rs.length->w.cell? ⟨b,off+i*2,none⟩=some (.string (rs.getD i f2z).nm)/\w.cell? ⟨b,off+i*2+1,none⟩=some (.string (rs.getD i f2z).tx))):=by
 rcases h with h | ⟨b,off,h⟩
 · exact ⟨0,0,.inl h⟩
 exact ⟨b,off,.inr h⟩
theorem files_below {w w':World} {a:Option Addr} {rs:List F2} (h:FilesAt w a rs) (hb:Below w.heap.size w w'):FilesAt w' a rs:=by
 rcases h with h | ⟨b,off,h1,h2,h3⟩
 · exact .inl h
 exact .inr ⟨b,off,h1,Nat.lt_of_lt_of_le h2 hb.size,fun i hi=>by rw [hb.cell (by exact h2),hb.cell (by exact h2)];exact h3 i hi⟩
def F2.le (x:F2) (B:Nat):Prop:=x.nm.size<=B/\x.tx.size<=B
theorem set2_other (u:World) (B j m:Nat) (v0 v1:Value) (h0:m≠j) (h1:m≠j+1):((u.setCell ⟨B,j,none⟩ v0).setCell ⟨B,j+1,none⟩ v1).cell? ⟨B,m,none⟩=u.cell? ⟨B,m,none⟩:=by
 rw [World.cell?_setCell_other _ _ _ _ (adr_ne (Ne.symm h1)),World.cell?_setCell_other _ _ _ _ (adr_ne (Ne.symm h0))]
theorem info40:(prog.info? 40).map (fun i=>(i.zero,i.size,i.bytes))=some (some (.agg #[.string ⟨#[]⟩,.string ⟨#[]⟩]),2,32):=kr_
def Unf (w:World) (g:Nat):Prop:=g<w.heap.size/\∀ j,w.frozen? ⟨g,j,none⟩=false
theorem Unf.set {w:World} {g:Nat} {p:Addr} {v:Value} (h:Unf w g):Unf (w.setCell p v) g:=⟨by simpa using h.1,fun j=>by simpa using h.2 j⟩
def fileOk (x:F2):Bool:=nameOk x.nm.data.toList&&decide ((x.tx.size:Int)<=300)
theorem c60 (x:F2) (w:World) (hs:x.le 1048700):
 Calls prog 60 #[.agg #[.string x.nm,.string x.tx]] w fun e w'=>e=.returned (.bool (fileOk x))/\Below w.heap.size w w':=by
 have HF:Hid (fileOk x=(nameOk x.nm.data.toList&&decide ((x.tx.size:Int)<=300))):=rfl;obtain ⟨h1,h2⟩:=hs;go_enter func60,ntmps60
 go_wp2_with fail
 refine (c62 _ _ h1).mono ?_;rintro e w1 ⟨rfl,rfl⟩;cases hn:nameOk x.nm.data.toList
 all_goals
  rw [hn] at HF;go_wp2
  all_goals go_ret
  all_goals exact ⟨ret_bool (by rw [HF.out];simp),bA_⟩
theorem c84 (x:F2) (w:World) (hs:x.le 1048700):
 Calls prog 84 #[.agg #[.string x.nm,.string x.tx]] w fun e w'=>e=.returned (.bool (fileOk x))/\Below w.heap.size w w':=by
 have HF:Hid (fileOk x=(nameOk x.nm.data.toList&&decide ((x.tx.size:Int)<=300))):=rfl;obtain ⟨h1,h2⟩:=hs;go_enter func84,ntmps84
 go_wp2_with fail
 refine (c112 _ _ h1).mono ?_;rintro e w1 ⟨rfl,rfl⟩;cases hn:nameOk x.nm.data.toList
 all_goals
  rw [hn] at HF;go_wp2
  all_goals go_ret
  all_goals exact ⟨ret_bool (by rw [HF.out];simp),bA_⟩
theorem c60v {x:F2} {v:Bool} (hv:fileOk x=v) (w:World) (hs:x.le 1048700):
 Calls prog 60 #[.agg #[.string x.nm,.string x.tx]] w fun e w'=>e=.returned (.bool v)/\Below w.heap.size w w':=hv▸c60 x w hs
theorem c84v {x:F2} {v:Bool} (hv:fileOk x=v) (w:World) (hs:x.le 1048700):
 Calls prog 84 #[.agg #[.string x.nm,.string x.tx]] w fun e w'=>e=.returned (.bool v)/\Below w.heap.size w w':=hv▸c84 x w hs
def stepOk (fs:List F2) (k:Nat):Bool:=fileOk (fs.getD k f2z)&&(decide (k=0) || Op.bytesLess (fs.getD (k - 1) f2z).nm.toList (fs.getD k f2z).nm.toList)
def treeOk (fs:List F2):Prop:=fs.length<=40/\∀ k,k<fs.length->stepOk fs k=true
theorem c66 (a:Option Addr) (cap:Nat) (fs:List F2) (w:World) (hl:fs.length<=1048576) (hs:∀ i,(fs.getD i f2z).le 1048576) (hat:FilesAt w a fs):
 Calls prog 66 #[.agg #[.slice a fs.length cap]] w fun e w'=>(∃ b:Bool,e=.returned (.bool b)/\(b=true↔treeOk fs))/\Below w.heap.size w w':=by
 obtain ⟨b,off,hc⟩:=files_some hat;have HC:Hid (fs=[]\/(a=some ⟨b,off,none⟩/\b<w.heap.size/\∀ i,i<fs.length->w.cell? ⟨b,off+i*2,none⟩=some (.string (fs.getD i f2z).nm)/\w.cell? ⟨b,off+i*2+1,none⟩=some (.string (fs.getD i f2z).tx))):=hc;clear hc hat;by_cases hbig:40<fs.length
 · go_enter func66,ntmps66
   go_wp2;go_ret;exact ⟨⟨false,rfl,by simp [treeOk];omega⟩,bA_⟩
 go_enter func66,ntmps66
 go_wp2_with fail
 go_loopw [3] (fun i wr=>∃ k:Nat,k<=fs.length/\i=.int .i64 k/\Below w.heap.size w wr/\wr.cell? ⟨w.heap.size,0,none⟩=some (.slice a fs.length cap)/\w.heap.size+1<=wr.heap.size/\Hid (∀ j,j<k->stepOk fs j=true)) (fun i _=>fs.length - (intOf i).toNat)
 case atStart=>exact ⟨0,Nat.zero_le _,rfl,bA_,sm_,sm_,fun j h=>absurd h (Nat.not_lt_zero _)⟩
 obtain ⟨k,hk,rfl,hb,t0,hz,hdone⟩:=hrel;by_cases hlt:k<fs.length;rotate_left
 · have hd':Hid (treeOk fs):=⟨om_,fun j hj=>hdone.out j om_⟩
   go_wp2;go_ret;exact ⟨⟨true,rfl,by simp only [true_iff];exact hd'.out⟩,hb⟩
 rcases HC.out with hss | ⟨ha,hbw,hcell⟩
 · rw [hss] at hlt;exact absurd hlt (Nat.not_lt_zero _)
 subst ha;have HB:Hid (Below w.heap.size w wr):=hb;have g0:=(hb.cell (p:=⟨b,off+k*2,none⟩) hbw).trans (hcell k hlt).1;have g1:=(hb.cell (p:=⟨b,off+k*2+1,none⟩) hbw).trans (hcell k hlt).2;have hbr:b<wr.heap.size:=Nat.lt_of_lt_of_le hbw hb.size;have hsx:Hid ((fs.getD k f2z).le 1048700):=⟨Nat.le_trans (hs k).1 om_,Nat.le_trans (hs k).2 om_⟩;rcases Nat.eq_zero_or_pos k with h0 | h0
 · subst h0
   have HS:Hid (stepOk fs 0=fileOk (fs.getD 0 f2z)):=by simp [stepOk,Hid]
   simp only [Nat.zero_mul,Nat.add_zero] at g0 g1;generalize fs.getD 0 f2z=x at*;clear hcell hb;cases hx:fileOk x
   · go_wp2_with fail
     refine wp_region_held_drew (S:=(fun u=>u.cell? ⟨w.heap.size,0,none⟩=some (.slice (some ⟨b,off,none⟩) fs.length cap)/\u.cell? ⟨b,off,none⟩=some (.string x.nm)/\u.cell? ⟨b,off+1,none⟩=some (.string x.tx))) kr_ ?_ fun hH=>?_
     · ((try dsimp only);go_keep)
     refine tq 0 hH ?_;refine tq 1 hH ?_
     try simp only [qq]
     refine tq 2 hH ?_;refine tq 3 hH ?_
     try simp only [qq]
     refine tq 4 hH ?_
     try simp only [qq]
     refine rq 5 fun K hK=>?_;go_simp;refine (c60v hx _ hsx.out).mono ?_;rintro e w1 ⟨rfl,hb1⟩;have HB1:Hid (Below wr.heap.size wr w1):=((Below.refl _ _).drew).trans hb1;have p0:=(HB1.out.cell (p:=⟨w.heap.size,0,none⟩) (by show w.heap.size<wr.heap.size;omega)).trans t0;have p1:=(HB1.out.cell (p:=⟨b,off,none⟩) hbr).trans g0;have p2:=(HB1.out.cell (p:=⟨b,off+1,none⟩) hbr).trans g1
     go_wp2_with fail
     clear hH;refine hK.out _ _ ?_ fun hH=>?_
     · ((try dsimp only);go_keep)
     clear hK K;refine tq 6 hH ?_;refine tq 7 hH ?_
     try simp only [qq]
     refine uq 8 hH ?_;refine uq 9 hH ?_
     try simp only [qq]
     refine uq 10 hH ?_;refine uq 11 hH ?_
     try simp only [qq]
     refine uq 12 hH ?_;refine uq 13 hH ?_
     try simp only [qq]
     refine uq 14 hH ?_;refine uq 15 hH ?_
     try simp only [qq]
     refine uq 16 hH ?_;refine uq 17 hH ?_
     try simp only [qq]
     refine uq 18 hH ?_;refine uq 19 hH ?_
     try simp only [qq]
     refine uq 20 hH ?_;refine uq 21 hH ?_
     try simp only [qq]
     refine uq 22 hH ?_;refine uq 23 hH ?_
     try simp only [qq]
     refine uq 24 hH ?_;refine uq 25 hH ?_
     try simp only [qq]
     refine tq 26 hH ?_
     try simp only [qq]
     refine wpAnyH_done kr_ ?_ _;have hB1:Below w.heap.size w w1:=bT_ HB.out HB1.out;rw [hx] at HS;clear hH;go_wp2;go_ret;exact ⟨⟨false,rfl,by simp only [Bool.false_eq_true,false_iff];intro h;have:=h.2 _ hlt;rw [HS.out] at this;cases this⟩,hB1⟩
   go_wp2_with fail
   refine wp_region_held_drew (S:=(fun u=>u.cell? ⟨w.heap.size,0,none⟩=some (.slice (some ⟨b,off,none⟩) fs.length cap)/\u.cell? ⟨b,off,none⟩=some (.string x.nm)/\u.cell? ⟨b,off+1,none⟩=some (.string x.tx))) kr_ ?_ fun hH=>?_
   · ((try dsimp only);go_keep)
   refine tq 0 hH ?_;refine tq 1 hH ?_
   try simp only [qq]
   refine tq 2 hH ?_;refine tq 3 hH ?_
   try simp only [qq]
   refine tq 4 hH ?_
   try simp only [qq]
   refine rq 5 fun K hK=>?_;go_simp;refine (c60v hx _ hsx.out).mono ?_;rintro e w1 ⟨rfl,hb1⟩;have HB1:Hid (Below wr.heap.size wr w1):=((Below.refl _ _).drew).trans hb1;have p0:=(HB1.out.cell (p:=⟨w.heap.size,0,none⟩) (by show w.heap.size<wr.heap.size;omega)).trans t0;have p1:=(HB1.out.cell (p:=⟨b,off,none⟩) hbr).trans g0;have p2:=(HB1.out.cell (p:=⟨b,off+1,none⟩) hbr).trans g1
   go_wp2_with fail
   clear hH;refine hK.out _ _ ?_ fun hH=>?_
   · ((try dsimp only);go_keep)
   clear hK K;refine tq 6 hH ?_;refine tq 7 hH ?_
   try simp only [qq]
   refine tq 8 hH ?_;refine tq 9 hH ?_
   try simp only [qq]
   refine tq 10 hH ?_;refine uq 11 hH ?_
   try simp only [qq]
   refine uq 12 hH ?_;refine uq 13 hH ?_
   try simp only [qq]
   refine uq 14 hH ?_;refine uq 15 hH ?_
   try simp only [qq]
   refine uq 16 hH ?_;refine uq 17 hH ?_
   try simp only [qq]
   refine uq 18 hH ?_;refine uq 19 hH ?_
   try simp only [qq]
   refine uq 20 hH ?_;refine uq 21 hH ?_
   try simp only [qq]
   refine uq 22 hH ?_;refine uq 23 hH ?_
   try simp only [qq]
   refine uq 24 hH ?_;refine tq 25 hH ?_
   try simp only [qq]
   refine tq 26 hH ?_
   try simp only [qq]
   refine wpAnyH_done kr_ ?_ _;have hB1:Below w.heap.size w w1:=bT_ HB.out HB1.out;have hz1:w.heap.size+1<=w1.heap.size:=Nat.le_trans hz HB1.out.size;rw [hx] at HS;have hd':Hid (∀ j,j<0+1->stepOk fs j=true):=fun j hj=>by
    rcases Nat.lt_or_ge j 0 with h | h
    · exact hdone.out j h
    obtain rfl:j=0:=om_;exact HS.out
   clear hH;go_wp2;go_roundw
   case rel=>exact ⟨0+1,om_,by go_num,hB1,p0,hz1,hd'⟩
   case measure=>simp [intOf];omega
 obtain ⟨q,hq⟩:∃ q,q+1=k:=⟨k - 1,om_⟩;have g2:=(hb.cell (p:=⟨b,off+q*2,none⟩) hbw).trans (hcell q om_).1;have HS:Hid (stepOk fs k=(fileOk (fs.getD k f2z)&&Op.bytesLess (fs.getD q f2z).nm.toList (fs.getD k f2z).nm.toList)):=by
  have e1:decide (k=0)=false:=decide_eq_false om_;have e2:k - 1=q:=om_;unfold stepOk;rw [e1,e2];rfl
 have hm0:(0:Int)<(k:Int):=om_;have hm1:decide ((0:Int)<(k:Int))=true:=decide_eq_true hm0;generalize fs.getD k f2z=x at*;generalize fs.getD q f2z=y at*;have hwr:IntKind.i64.wrap ((k:Int) - 1)=(q:Int):=by rw [show (k:Int) - 1=(q:Int) by omega];exact wrap_nat q om_
 have hql:(q:Int)<(fs.length:Int):=om_;clear hq;clear hcell hb;cases hx:fileOk x
 · cases hy:Op.bytesLess y.nm.toList x.nm.toList
   · go_wp2_with fail
     refine wp_region_held_drew (S:=(fun u=>u.cell? ⟨w.heap.size,0,none⟩=some (.slice (some ⟨b,off,none⟩) fs.length cap)/\u.cell? ⟨b,off+k*2,none⟩=some (.string x.nm)/\u.cell? ⟨b,off+k*2+1,none⟩=some (.string x.tx)/\u.cell? ⟨b,off+q*2,none⟩=some (.string y.nm))) kr_ ?_ fun hH=>?_
     · ((try dsimp only);go_keep)
     refine tq 0 hH ?_;refine tq 1 hH ?_
     try simp only [qq]
     refine tq 2 hH ?_;refine tq 3 hH ?_
     try simp only [qq]
     refine tq 4 hH ?_
     try simp only [qq]
     refine rq 5 fun K hK=>?_;go_simp;refine (c60v hx _ hsx.out).mono ?_;rintro e w1 ⟨rfl,hb1⟩;have HB1:Hid (Below wr.heap.size wr w1):=((Below.refl _ _).drew).trans hb1;have p0:=(HB1.out.cell (p:=⟨w.heap.size,0,none⟩) (by show w.heap.size<wr.heap.size;omega)).trans t0;have p1:=(HB1.out.cell (p:=⟨b,off+k*2,none⟩) hbr).trans g0;have p2:=(HB1.out.cell (p:=⟨b,off+k*2+1,none⟩) hbr).trans g1;have p3:=(HB1.out.cell (p:=⟨b,off+q*2,none⟩) hbr).trans g2
     go_wp2_with fail
     clear hH;refine hK.out _ _ ?_ fun hH=>?_
     · ((try dsimp only);go_keep)
     clear hK K;refine tq 6 hH ?_;refine tq 7 hH ?_
     try simp only [qq]
     refine uq 8 hH ?_;refine uq 9 hH ?_
     try simp only [qq]
     refine uq 10 hH ?_;refine uq 11 hH ?_
     try simp only [qq]
     refine uq 12 hH ?_;refine uq 13 hH ?_
     try simp only [qq]
     refine uq 14 hH ?_;refine uq 15 hH ?_
     try simp only [qq]
     refine uq 16 hH ?_;refine uq 17 hH ?_
     try simp only [qq]
     refine uq 18 hH ?_;refine uq 19 hH ?_
     try simp only [qq]
     refine uq 20 hH ?_;refine uq 21 hH ?_
     try simp only [qq]
     refine uq 22 hH ?_;refine uq 23 hH ?_
     try simp only [qq]
     refine uq 24 hH ?_;refine uq 25 hH ?_
     try simp only [qq]
     refine tq 26 hH ?_
     try simp only [qq]
     refine wpAnyH_done kr_ ?_ _;have hB1:Below w.heap.size w w1:=bT_ HB.out HB1.out;rw [hx,hy] at HS;clear hH;go_wp2;go_ret;exact ⟨⟨false,rfl,by simp only [Bool.false_eq_true,false_iff];intro h;have:=h.2 _ hlt;rw [HS.out] at this;cases this⟩,hB1⟩
   go_wp2_with fail
   refine wp_region_held_drew (S:=(fun u=>u.cell? ⟨w.heap.size,0,none⟩=some (.slice (some ⟨b,off,none⟩) fs.length cap)/\u.cell? ⟨b,off+k*2,none⟩=some (.string x.nm)/\u.cell? ⟨b,off+k*2+1,none⟩=some (.string x.tx)/\u.cell? ⟨b,off+q*2,none⟩=some (.string y.nm))) kr_ ?_ fun hH=>?_
   · ((try dsimp only);go_keep)
   refine tq 0 hH ?_;refine tq 1 hH ?_
   try simp only [qq]
   refine tq 2 hH ?_;refine tq 3 hH ?_
   try simp only [qq]
   refine tq 4 hH ?_
   try simp only [qq]
   refine rq 5 fun K hK=>?_;go_simp;refine (c60v hx _ hsx.out).mono ?_;rintro e w1 ⟨rfl,hb1⟩;have HB1:Hid (Below wr.heap.size wr w1):=((Below.refl _ _).drew).trans hb1;have p0:=(HB1.out.cell (p:=⟨w.heap.size,0,none⟩) (by show w.heap.size<wr.heap.size;omega)).trans t0;have p1:=(HB1.out.cell (p:=⟨b,off+k*2,none⟩) hbr).trans g0;have p2:=(HB1.out.cell (p:=⟨b,off+k*2+1,none⟩) hbr).trans g1;have p3:=(HB1.out.cell (p:=⟨b,off+q*2,none⟩) hbr).trans g2
   go_wp2_with fail
   clear hH;refine hK.out _ _ ?_ fun hH=>?_
   · ((try dsimp only);go_keep)
   clear hK K;refine tq 6 hH ?_;refine tq 7 hH ?_
   try simp only [qq]
   refine uq 8 hH ?_;refine uq 9 hH ?_
   try simp only [qq]
   refine uq 10 hH ?_;refine uq 11 hH ?_
   try simp only [qq]
   refine uq 12 hH ?_;refine uq 13 hH ?_
   try simp only [qq]
   refine uq 14 hH ?_;refine uq 15 hH ?_
   try simp only [qq]
   refine uq 16 hH ?_;refine uq 17 hH ?_
   try simp only [qq]
   refine uq 18 hH ?_;refine uq 19 hH ?_
   try simp only [qq]
   refine uq 20 hH ?_;refine uq 21 hH ?_
   try simp only [qq]
   refine uq 22 hH ?_;refine uq 23 hH ?_
   try simp only [qq]
   refine uq 24 hH ?_;refine uq 25 hH ?_
   try simp only [qq]
   refine tq 26 hH ?_
   try simp only [qq]
   refine wpAnyH_done kr_ ?_ _;have hB1:Below w.heap.size w w1:=bT_ HB.out HB1.out;rw [hx,hy] at HS;clear hH;go_wp2;go_ret;exact ⟨⟨false,rfl,by simp only [Bool.false_eq_true,false_iff];intro h;have:=h.2 _ hlt;rw [HS.out] at this;cases this⟩,hB1⟩
 cases hy:Op.bytesLess y.nm.toList x.nm.toList
 · go_wp2_with fail
   refine wp_region_held_drew (S:=(fun u=>u.cell? ⟨w.heap.size,0,none⟩=some (.slice (some ⟨b,off,none⟩) fs.length cap)/\u.cell? ⟨b,off+k*2,none⟩=some (.string x.nm)/\u.cell? ⟨b,off+k*2+1,none⟩=some (.string x.tx)/\u.cell? ⟨b,off+q*2,none⟩=some (.string y.nm))) kr_ ?_ fun hH=>?_
   · ((try dsimp only);go_keep)
   refine tq 0 hH ?_;refine tq 1 hH ?_
   try simp only [qq]
   refine tq 2 hH ?_;refine tq 3 hH ?_
   try simp only [qq]
   refine tq 4 hH ?_
   try simp only [qq]
   refine rq 5 fun K hK=>?_;go_simp;refine (c60v hx _ hsx.out).mono ?_;rintro e w1 ⟨rfl,hb1⟩;have HB1:Hid (Below wr.heap.size wr w1):=((Below.refl _ _).drew).trans hb1;have p0:=(HB1.out.cell (p:=⟨w.heap.size,0,none⟩) (by show w.heap.size<wr.heap.size;omega)).trans t0;have p1:=(HB1.out.cell (p:=⟨b,off+k*2,none⟩) hbr).trans g0;have p2:=(HB1.out.cell (p:=⟨b,off+k*2+1,none⟩) hbr).trans g1;have p3:=(HB1.out.cell (p:=⟨b,off+q*2,none⟩) hbr).trans g2
   go_wp2_with fail
   clear hH;refine hK.out _ _ ?_ fun hH=>?_
   · ((try dsimp only);go_keep)
   clear hK K;refine tq 6 hH ?_;refine tq 7 hH ?_
   try simp only [qq]
   refine tq 8 hH ?_;refine tq 9 hH ?_
   try simp only [qq]
   refine tq 10 hH ?_;refine tq 11 hH ?_
   try simp only [qq]
   refine tq 12 hH ?_;refine tq 13 hH ?_
   try simp only [qq]
   refine tq 14 hH ?_;refine tq 15 hH ?_
   try simp only [qq]
   refine tq 16 hH ?_;refine tq 17 hH ?_
   try simp only [qq]
   refine tq 18 hH ?_;refine tq 19 hH ?_
   try simp only [qq]
   refine tq 20 hH ?_;refine tq 21 hH ?_
   try simp only [qq]
   refine tq 22 hH ?_;refine tq 23 hH ?_
   try simp only [qq]
   refine tq 24 hH ?_;refine tq 25 hH ?_
   try simp only [qq]
   refine tq 26 hH ?_
   try simp only [qq]
   refine wpAnyH_done kr_ ?_ _;have hB1:Below w.heap.size w w1:=bT_ HB.out HB1.out;rw [hx,hy] at HS;clear hH;go_wp2;go_ret;exact ⟨⟨false,rfl,by simp only [Bool.false_eq_true,false_iff];intro h;have:=h.2 _ hlt;rw [HS.out] at this;cases this⟩,hB1⟩
 go_wp2_with fail
 refine wp_region_held_drew (S:=(fun u=>u.cell? ⟨w.heap.size,0,none⟩=some (.slice (some ⟨b,off,none⟩) fs.length cap)/\u.cell? ⟨b,off+k*2,none⟩=some (.string x.nm)/\u.cell? ⟨b,off+k*2+1,none⟩=some (.string x.tx)/\u.cell? ⟨b,off+q*2,none⟩=some (.string y.nm))) kr_ ?_ fun hH=>?_
 · ((try dsimp only);go_keep)
 refine tq 0 hH ?_;refine tq 1 hH ?_
 try simp only [qq]
 refine tq 2 hH ?_;refine tq 3 hH ?_
 try simp only [qq]
 refine tq 4 hH ?_
 try simp only [qq]
 refine rq 5 fun K hK=>?_;go_simp;refine (c60v hx _ hsx.out).mono ?_;rintro e w1 ⟨rfl,hb1⟩;have HB1:Hid (Below wr.heap.size wr w1):=((Below.refl _ _).drew).trans hb1;have p0:=(HB1.out.cell (p:=⟨w.heap.size,0,none⟩) (by show w.heap.size<wr.heap.size;omega)).trans t0;have p1:=(HB1.out.cell (p:=⟨b,off+k*2,none⟩) hbr).trans g0;have p2:=(HB1.out.cell (p:=⟨b,off+k*2+1,none⟩) hbr).trans g1;have p3:=(HB1.out.cell (p:=⟨b,off+q*2,none⟩) hbr).trans g2
 go_wp2_with fail
 clear hH;refine hK.out _ _ ?_ fun hH=>?_
 · ((try dsimp only);go_keep)
 clear hK K;refine tq 6 hH ?_;refine tq 7 hH ?_
 try simp only [qq]
 refine tq 8 hH ?_;refine tq 9 hH ?_
 try simp only [qq]
 refine tq 10 hH ?_;refine tq 11 hH ?_
 try simp only [qq]
 refine tq 12 hH ?_;refine tq 13 hH ?_
 try simp only [qq]
 refine tq 14 hH ?_;refine tq 15 hH ?_
 try simp only [qq]
 refine tq 16 hH ?_;refine tq 17 hH ?_
 try simp only [qq]
 refine tq 18 hH ?_;refine tq 19 hH ?_
 try simp only [qq]
 refine tq 20 hH ?_;refine tq 21 hH ?_
 try simp only [qq]
 refine tq 22 hH ?_;refine tq 23 hH ?_
 try simp only [qq]
 refine tq 24 hH ?_;refine tq 25 hH ?_
 try simp only [qq]
 refine tq 26 hH ?_
 try simp only [qq]
 refine wpAnyH_done kr_ ?_ _;have hB1:Below w.heap.size w w1:=bT_ HB.out HB1.out;have hz1:w.heap.size+1<=w1.heap.size:=Nat.le_trans hz HB1.out.size;rw [hx,hy] at HS;have hd':Hid (∀ j,j<k+1->stepOk fs j=true):=fun j hj=>by
  rcases Nat.lt_or_ge j k with h | h
  · exact hdone.out j h
  obtain rfl:j=k:=om_;exact HS.out
 clear hH;go_wp2;go_roundw
 case rel=>exact ⟨k+1,om_,by go_num,hB1,p0,hz1,hd'⟩
 case measure=>simp [intOf];omega
theorem c83 (a:Option Addr) (cap:Nat) (fs:List F2) (w:World) (hl:fs.length<=1048576) (hs:∀ i,(fs.getD i f2z).le 1048576) (hat:FilesAt w a fs):
 Calls prog 83 #[.agg #[.slice a fs.length cap]] w fun e w'=>(∃ b:Bool,e=.returned (.bool b)/\(b=true↔treeOk fs))/\Below w.heap.size w w':=by
 obtain ⟨b,off,hc⟩:=files_some hat;have HC:Hid (fs=[]\/(a=some ⟨b,off,none⟩/\b<w.heap.size/\∀ i,i<fs.length->w.cell? ⟨b,off+i*2,none⟩=some (.string (fs.getD i f2z).nm)/\w.cell? ⟨b,off+i*2+1,none⟩=some (.string (fs.getD i f2z).tx))):=hc;clear hc hat;by_cases hbig:40<fs.length
 · go_enter func83,ntmps83
   go_wp2;go_ret;exact ⟨⟨false,rfl,by simp [treeOk];omega⟩,bA_⟩
 go_enter func83,ntmps83
 go_wp2_with fail
 go_loopw [12] (fun i wr=>∃ k:Nat,k<=fs.length/\i=.int .i64 k/\Below w.heap.size w wr/\wr.cell? ⟨w.heap.size,0,none⟩=some (.slice a fs.length cap)/\w.heap.size+1<=wr.heap.size/\Hid (∀ j,j<k->stepOk fs j=true)) (fun i _=>fs.length - (intOf i).toNat)
 case atStart=>exact ⟨0,Nat.zero_le _,rfl,bA_,sm_,sm_,fun j h=>absurd h (Nat.not_lt_zero _)⟩
 obtain ⟨k,hk,rfl,hb,t0,hz,hdone⟩:=hrel;by_cases hlt:k<fs.length;rotate_left
 · have hd':Hid (treeOk fs):=⟨om_,fun j hj=>hdone.out j om_⟩
   go_wp2;go_ret;exact ⟨⟨true,rfl,by simp only [true_iff];exact hd'.out⟩,hb⟩
 rcases HC.out with hss | ⟨ha,hbw,hcell⟩
 · rw [hss] at hlt;exact absurd hlt (Nat.not_lt_zero _)
 subst ha;have HB:Hid (Below w.heap.size w wr):=hb;have g0:=(hb.cell (p:=⟨b,off+k*2,none⟩) hbw).trans (hcell k hlt).1;have g1:=(hb.cell (p:=⟨b,off+k*2+1,none⟩) hbw).trans (hcell k hlt).2;have hbr:b<wr.heap.size:=Nat.lt_of_lt_of_le hbw hb.size;have hsx:Hid ((fs.getD k f2z).le 1048700):=⟨Nat.le_trans (hs k).1 om_,Nat.le_trans (hs k).2 om_⟩;rcases Nat.eq_zero_or_pos k with h0 | h0
 · subst h0
   have HS:Hid (stepOk fs 0=fileOk (fs.getD 0 f2z)):=by simp [stepOk,Hid]
   simp only [Nat.zero_mul,Nat.add_zero] at g0 g1;generalize fs.getD 0 f2z=x at*;clear hcell hb;cases hx:fileOk x
   · go_wp2_with fail
     have HBW:Hid (Below wr.heap.size wr (wr.alloc (.cells #[.string x.nm,.string x.tx] 40))):=bA_;have t1:=(HBW.out.cell (p:=⟨w.heap.size,0,none⟩) (by show w.heap.size<wr.heap.size;omega)).trans t0;have f0:(wr.alloc (.cells #[.string x.nm,.string x.tx] 40)).cell? ⟨wr.heap.size,0,none⟩=some (.string x.nm):=sm_;have f1:(wr.alloc (.cells #[.string x.nm,.string x.tx] 40)).cell? ⟨wr.heap.size,1,none⟩=some (.string x.tx):=sm_;have hFW:wr.heap.size<(wr.alloc (.cells #[.string x.nm,.string x.tx] 40)).heap.size:=sm_;generalize (wr.alloc (.cells #[.string x.nm,.string x.tx] 40))=W at*;have hwW:w.heap.size<W.heap.size:=om_;have hbW:b<W.heap.size:=om_;refine wp_region_held_drew (S:=(fun u=>u.cell? ⟨w.heap.size,0,none⟩=some (.slice (some ⟨b,off,none⟩) fs.length cap)/\u.cell? ⟨wr.heap.size,0,none⟩=some (.string x.nm)/\u.cell? ⟨wr.heap.size,1,none⟩=some (.string x.tx))) kr_ ?_ fun hH=>?_
     · ((try dsimp only);go_keep)
     refine tq 0 hH ?_
     try simp only [qq]
     refine rq 1 fun K hK=>?_;go_simp;refine (c84v hx _ hsx.out).mono ?_;rintro e w1 ⟨rfl,hb1⟩;have HB1:Hid (Below W.heap.size W w1):=((Below.refl _ _).drew).trans hb1;have p0:=(HB1.out.cell (p:=⟨w.heap.size,0,none⟩) hwW).trans t1;have p1:=(HB1.out.cell (p:=⟨wr.heap.size,0,none⟩) hFW).trans f0;have p2:=(HB1.out.cell (p:=⟨wr.heap.size,1,none⟩) hFW).trans f1
     go_wp2_with fail
     clear hH;refine hK.out _ _ ?_ fun hH=>?_
     · ((try dsimp only);go_keep)
     clear hK K;refine tq 2 hH ?_;refine tq 3 hH ?_
     try simp only [qq]
     refine uq 4 hH ?_;refine uq 5 hH ?_
     try simp only [qq]
     refine uq 6 hH ?_;refine uq 7 hH ?_
     try simp only [qq]
     refine uq 8 hH ?_;refine uq 9 hH ?_
     try simp only [qq]
     refine uq 10 hH ?_;refine uq 11 hH ?_
     try simp only [qq]
     refine uq 12 hH ?_;refine uq 13 hH ?_
     try simp only [qq]
     refine uq 14 hH ?_;refine uq 15 hH ?_
     try simp only [qq]
     refine uq 16 hH ?_;refine uq 17 hH ?_
     try simp only [qq]
     refine tq 18 hH ?_
     try simp only [qq]
     refine wpAnyH_done kr_ ?_ _;have hB1:Below w.heap.size w w1:=HB.out.trans ((HBW.out.trans (HB1.out.mono om_)).mono HB.out.size);rw [hx] at HS;clear hH;go_wp2;go_ret;exact ⟨⟨false,rfl,by simp only [Bool.false_eq_true,false_iff];intro h;have:=h.2 _ hlt;rw [HS.out] at this;cases this⟩,hB1⟩
   go_wp2_with fail
   have HBW:Hid (Below wr.heap.size wr (wr.alloc (.cells #[.string x.nm,.string x.tx] 40))):=bA_;have t1:=(HBW.out.cell (p:=⟨w.heap.size,0,none⟩) (by show w.heap.size<wr.heap.size;omega)).trans t0;have f0:(wr.alloc (.cells #[.string x.nm,.string x.tx] 40)).cell? ⟨wr.heap.size,0,none⟩=some (.string x.nm):=sm_;have f1:(wr.alloc (.cells #[.string x.nm,.string x.tx] 40)).cell? ⟨wr.heap.size,1,none⟩=some (.string x.tx):=sm_;have hFW:wr.heap.size<(wr.alloc (.cells #[.string x.nm,.string x.tx] 40)).heap.size:=sm_;generalize (wr.alloc (.cells #[.string x.nm,.string x.tx] 40))=W at*;have hwW:w.heap.size<W.heap.size:=om_;have hbW:b<W.heap.size:=om_;refine wp_region_held_drew (S:=(fun u=>u.cell? ⟨w.heap.size,0,none⟩=some (.slice (some ⟨b,off,none⟩) fs.length cap)/\u.cell? ⟨wr.heap.size,0,none⟩=some (.string x.nm)/\u.cell? ⟨wr.heap.size,1,none⟩=some (.string x.tx))) kr_ ?_ fun hH=>?_
   · ((try dsimp only);go_keep)
   refine tq 0 hH ?_
   try simp only [qq]
   refine rq 1 fun K hK=>?_;go_simp;refine (c84v hx _ hsx.out).mono ?_;rintro e w1 ⟨rfl,hb1⟩;have HB1:Hid (Below W.heap.size W w1):=((Below.refl _ _).drew).trans hb1;have p0:=(HB1.out.cell (p:=⟨w.heap.size,0,none⟩) hwW).trans t1;have p1:=(HB1.out.cell (p:=⟨wr.heap.size,0,none⟩) hFW).trans f0;have p2:=(HB1.out.cell (p:=⟨wr.heap.size,1,none⟩) hFW).trans f1
   go_wp2_with fail
   clear hH;refine hK.out _ _ ?_ fun hH=>?_
   · ((try dsimp only);go_keep)
   clear hK K;refine tq 2 hH ?_;refine tq 3 hH ?_
   try simp only [qq]
   refine tq 4 hH ?_;refine tq 5 hH ?_
   try simp only [qq]
   refine tq 6 hH ?_;refine uq 7 hH ?_
   try simp only [qq]
   refine uq 8 hH ?_;refine uq 9 hH ?_
   try simp only [qq]
   refine uq 10 hH ?_;refine uq 11 hH ?_
   try simp only [qq]
   refine uq 12 hH ?_;refine uq 13 hH ?_
   try simp only [qq]
   refine uq 14 hH ?_;refine uq 15 hH ?_
   try simp only [qq]
   refine uq 16 hH ?_;refine tq 17 hH ?_
   try simp only [qq]
   refine tq 18 hH ?_
   try simp only [qq]
   refine wpAnyH_done kr_ ?_ _;have hB1:Below w.heap.size w w1:=HB.out.trans ((HBW.out.trans (HB1.out.mono om_)).mono HB.out.size);have hz1:w.heap.size+1<=w1.heap.size:=by have:=HB1.out.size;omega
   rw [hx] at HS;have hd':Hid (∀ j,j<0+1->stepOk fs j=true):=fun j hj=>by
    rcases Nat.lt_or_ge j 0 with h | h
    · exact hdone.out j h
    obtain rfl:j=0:=om_;exact HS.out
   clear hH;go_wp2;go_roundw
   case rel=>exact ⟨0+1,om_,by go_num,hB1,p0,hz1,hd'⟩
   case measure=>simp [intOf];omega
 obtain ⟨q,hq⟩:∃ q,q+1=k:=⟨k - 1,om_⟩;have g2:=(hb.cell (p:=⟨b,off+q*2,none⟩) hbw).trans (hcell q om_).1;have HS:Hid (stepOk fs k=(fileOk (fs.getD k f2z)&&Op.bytesLess (fs.getD q f2z).nm.toList (fs.getD k f2z).nm.toList)):=by
  have e1:decide (k=0)=false:=decide_eq_false om_;have e2:k - 1=q:=om_;unfold stepOk;rw [e1,e2];rfl
 have hm0:(0:Int)<(k:Int):=om_;have hm1:decide ((0:Int)<(k:Int))=true:=decide_eq_true hm0;generalize fs.getD k f2z=x at*;generalize fs.getD q f2z=y at*;have hwr:IntKind.i64.wrap ((k:Int) - 1)=(q:Int):=by rw [show (k:Int) - 1=(q:Int) by omega];exact wrap_nat q om_
 have hql:(q:Int)<(fs.length:Int):=om_;clear hq;clear hcell hb;cases hx:fileOk x
 · cases hy:Op.bytesLess y.nm.toList x.nm.toList
   · go_wp2_with fail
     have HBW:Hid (Below wr.heap.size wr (wr.alloc (.cells #[.string x.nm,.string x.tx] 40))):=bA_;have t1:=(HBW.out.cell (p:=⟨w.heap.size,0,none⟩) (by show w.heap.size<wr.heap.size;omega)).trans t0;have y1:=(HBW.out.cell (p:=⟨b,off+q*2,none⟩) hbr).trans g2;have f0:(wr.alloc (.cells #[.string x.nm,.string x.tx] 40)).cell? ⟨wr.heap.size,0,none⟩=some (.string x.nm):=sm_;have f1:(wr.alloc (.cells #[.string x.nm,.string x.tx] 40)).cell? ⟨wr.heap.size,1,none⟩=some (.string x.tx):=sm_;have hFW:wr.heap.size<(wr.alloc (.cells #[.string x.nm,.string x.tx] 40)).heap.size:=sm_;generalize (wr.alloc (.cells #[.string x.nm,.string x.tx] 40))=W at*;have hwW:w.heap.size<W.heap.size:=om_;have hbW:b<W.heap.size:=om_;refine wp_region_held_drew (S:=(fun u=>u.cell? ⟨w.heap.size,0,none⟩=some (.slice (some ⟨b,off,none⟩) fs.length cap)/\u.cell? ⟨wr.heap.size,0,none⟩=some (.string x.nm)/\u.cell? ⟨wr.heap.size,1,none⟩=some (.string x.tx)/\u.cell? ⟨b,off+q*2,none⟩=some (.string y.nm))) kr_ ?_ fun hH=>?_
     · ((try dsimp only);go_keep)
     refine tq 0 hH ?_
     try simp only [qq]
     refine rq 1 fun K hK=>?_;go_simp;refine (c84v hx _ hsx.out).mono ?_;rintro e w1 ⟨rfl,hb1⟩;have HB1:Hid (Below W.heap.size W w1):=((Below.refl _ _).drew).trans hb1;have p0:=(HB1.out.cell (p:=⟨w.heap.size,0,none⟩) hwW).trans t1;have p1:=(HB1.out.cell (p:=⟨wr.heap.size,0,none⟩) hFW).trans f0;have p2:=(HB1.out.cell (p:=⟨wr.heap.size,1,none⟩) hFW).trans f1;have p3:=(HB1.out.cell (p:=⟨b,off+q*2,none⟩) hbW).trans y1
     go_wp2_with fail
     clear hH;refine hK.out _ _ ?_ fun hH=>?_
     · ((try dsimp only);go_keep)
     clear hK K;refine tq 2 hH ?_;refine tq 3 hH ?_
     try simp only [qq]
     refine uq 4 hH ?_;refine uq 5 hH ?_
     try simp only [qq]
     refine uq 6 hH ?_;refine uq 7 hH ?_
     try simp only [qq]
     refine uq 8 hH ?_;refine uq 9 hH ?_
     try simp only [qq]
     refine uq 10 hH ?_;refine uq 11 hH ?_
     try simp only [qq]
     refine uq 12 hH ?_;refine uq 13 hH ?_
     try simp only [qq]
     refine uq 14 hH ?_;refine uq 15 hH ?_
     try simp only [qq]
     refine uq 16 hH ?_;refine uq 17 hH ?_
     try simp only [qq]
     refine tq 18 hH ?_
     try simp only [qq]
     refine wpAnyH_done kr_ ?_ _;have hB1:Below w.heap.size w w1:=HB.out.trans ((HBW.out.trans (HB1.out.mono om_)).mono HB.out.size);rw [hx,hy] at HS;clear hH;go_wp2;go_ret;exact ⟨⟨false,rfl,by simp only [Bool.false_eq_true,false_iff];intro h;have:=h.2 _ hlt;rw [HS.out] at this;cases this⟩,hB1⟩
   go_wp2_with fail
   have HBW:Hid (Below wr.heap.size wr (wr.alloc (.cells #[.string x.nm,.string x.tx] 40))):=bA_;have t1:=(HBW.out.cell (p:=⟨w.heap.size,0,none⟩) (by show w.heap.size<wr.heap.size;omega)).trans t0;have y1:=(HBW.out.cell (p:=⟨b,off+q*2,none⟩) hbr).trans g2;have f0:(wr.alloc (.cells #[.string x.nm,.string x.tx] 40)).cell? ⟨wr.heap.size,0,none⟩=some (.string x.nm):=sm_;have f1:(wr.alloc (.cells #[.string x.nm,.string x.tx] 40)).cell? ⟨wr.heap.size,1,none⟩=some (.string x.tx):=sm_;have hFW:wr.heap.size<(wr.alloc (.cells #[.string x.nm,.string x.tx] 40)).heap.size:=sm_;generalize (wr.alloc (.cells #[.string x.nm,.string x.tx] 40))=W at*;have hwW:w.heap.size<W.heap.size:=om_;have hbW:b<W.heap.size:=om_;refine wp_region_held_drew (S:=(fun u=>u.cell? ⟨w.heap.size,0,none⟩=some (.slice (some ⟨b,off,none⟩) fs.length cap)/\u.cell? ⟨wr.heap.size,0,none⟩=some (.string x.nm)/\u.cell? ⟨wr.heap.size,1,none⟩=some (.string x.tx)/\u.cell? ⟨b,off+q*2,none⟩=some (.string y.nm))) kr_ ?_ fun hH=>?_
   · ((try dsimp only);go_keep)
   refine tq 0 hH ?_
   try simp only [qq]
   refine rq 1 fun K hK=>?_;go_simp;refine (c84v hx _ hsx.out).mono ?_;rintro e w1 ⟨rfl,hb1⟩;have HB1:Hid (Below W.heap.size W w1):=((Below.refl _ _).drew).trans hb1;have p0:=(HB1.out.cell (p:=⟨w.heap.size,0,none⟩) hwW).trans t1;have p1:=(HB1.out.cell (p:=⟨wr.heap.size,0,none⟩) hFW).trans f0;have p2:=(HB1.out.cell (p:=⟨wr.heap.size,1,none⟩) hFW).trans f1;have p3:=(HB1.out.cell (p:=⟨b,off+q*2,none⟩) hbW).trans y1
   go_wp2_with fail
   clear hH;refine hK.out _ _ ?_ fun hH=>?_
   · ((try dsimp only);go_keep)
   clear hK K;refine tq 2 hH ?_;refine tq 3 hH ?_
   try simp only [qq]
   refine uq 4 hH ?_;refine uq 5 hH ?_
   try simp only [qq]
   refine uq 6 hH ?_;refine uq 7 hH ?_
   try simp only [qq]
   refine uq 8 hH ?_;refine uq 9 hH ?_
   try simp only [qq]
   refine uq 10 hH ?_;refine uq 11 hH ?_
   try simp only [qq]
   refine uq 12 hH ?_;refine uq 13 hH ?_
   try simp only [qq]
   refine uq 14 hH ?_;refine uq 15 hH ?_
   try simp only [qq]
   refine uq 16 hH ?_;refine uq 17 hH ?_
   try simp only [qq]
   refine tq 18 hH ?_
   try simp only [qq]
   refine wpAnyH_done kr_ ?_ _;have hB1:Below w.heap.size w w1:=HB.out.trans ((HBW.out.trans (HB1.out.mono om_)).mono HB.out.size);rw [hx,hy] at HS;clear hH;go_wp2;go_ret;exact ⟨⟨false,rfl,by simp only [Bool.false_eq_true,false_iff];intro h;have:=h.2 _ hlt;rw [HS.out] at this;cases this⟩,hB1⟩
 cases hy:Op.bytesLess y.nm.toList x.nm.toList
 · go_wp2_with fail
   have HBW:Hid (Below wr.heap.size wr (wr.alloc (.cells #[.string x.nm,.string x.tx] 40))):=bA_;have t1:=(HBW.out.cell (p:=⟨w.heap.size,0,none⟩) (by show w.heap.size<wr.heap.size;omega)).trans t0;have y1:=(HBW.out.cell (p:=⟨b,off+q*2,none⟩) hbr).trans g2;have f0:(wr.alloc (.cells #[.string x.nm,.string x.tx] 40)).cell? ⟨wr.heap.size,0,none⟩=some (.string x.nm):=sm_;have f1:(wr.alloc (.cells #[.string x.nm,.string x.tx] 40)).cell? ⟨wr.heap.size,1,none⟩=some (.string x.tx):=sm_;have hFW:wr.heap.size<(wr.alloc (.cells #[.string x.nm,.string x.tx] 40)).heap.size:=sm_;generalize (wr.alloc (.cells #[.string x.nm,.string x.tx] 40))=W at*;have hwW:w.heap.size<W.heap.size:=om_;have hbW:b<W.heap.size:=om_;refine wp_region_held_drew (S:=(fun u=>u.cell? ⟨w.heap.size,0,none⟩=some (.slice (some ⟨b,off,none⟩) fs.length cap)/\u.cell? ⟨wr.heap.size,0,none⟩=some (.string x.nm)/\u.cell? ⟨wr.heap.size,1,none⟩=some (.string x.tx)/\u.cell? ⟨b,off+q*2,none⟩=some (.string y.nm))) kr_ ?_ fun hH=>?_
   · ((try dsimp only);go_keep)
   refine tq 0 hH ?_
   try simp only [qq]
   refine rq 1 fun K hK=>?_;go_simp;refine (c84v hx _ hsx.out).mono ?_;rintro e w1 ⟨rfl,hb1⟩;have HB1:Hid (Below W.heap.size W w1):=((Below.refl _ _).drew).trans hb1;have p0:=(HB1.out.cell (p:=⟨w.heap.size,0,none⟩) hwW).trans t1;have p1:=(HB1.out.cell (p:=⟨wr.heap.size,0,none⟩) hFW).trans f0;have p2:=(HB1.out.cell (p:=⟨wr.heap.size,1,none⟩) hFW).trans f1;have p3:=(HB1.out.cell (p:=⟨b,off+q*2,none⟩) hbW).trans y1
   go_wp2_with fail
   clear hH;refine hK.out _ _ ?_ fun hH=>?_
   · ((try dsimp only);go_keep)
   clear hK K;refine tq 2 hH ?_;refine tq 3 hH ?_
   try simp only [qq]
   refine tq 4 hH ?_;refine tq 5 hH ?_
   try simp only [qq]
   refine tq 6 hH ?_;refine tq 7 hH ?_
   try simp only [qq]
   refine tq 8 hH ?_;refine tq 9 hH ?_
   try simp only [qq]
   refine tq 10 hH ?_;refine tq 11 hH ?_
   try simp only [qq]
   refine tq 12 hH ?_;refine tq 13 hH ?_
   try simp only [qq]
   refine tq 14 hH ?_;refine tq 15 hH ?_
   try simp only [qq]
   refine tq 16 hH ?_;refine tq 17 hH ?_
   try simp only [qq]
   refine tq 18 hH ?_
   try simp only [qq]
   refine wpAnyH_done kr_ ?_ _;have hB1:Below w.heap.size w w1:=HB.out.trans ((HBW.out.trans (HB1.out.mono om_)).mono HB.out.size);rw [hx,hy] at HS;clear hH;go_wp2;go_ret;exact ⟨⟨false,rfl,by simp only [Bool.false_eq_true,false_iff];intro h;have:=h.2 _ hlt;rw [HS.out] at this;cases this⟩,hB1⟩
 go_wp2_with fail
 have HBW:Hid (Below wr.heap.size wr (wr.alloc (.cells #[.string x.nm,.string x.tx] 40))):=bA_;have t1:=(HBW.out.cell (p:=⟨w.heap.size,0,none⟩) (by show w.heap.size<wr.heap.size;omega)).trans t0;have y1:=(HBW.out.cell (p:=⟨b,off+q*2,none⟩) hbr).trans g2;have f0:(wr.alloc (.cells #[.string x.nm,.string x.tx] 40)).cell? ⟨wr.heap.size,0,none⟩=some (.string x.nm):=sm_;have f1:(wr.alloc (.cells #[.string x.nm,.string x.tx] 40)).cell? ⟨wr.heap.size,1,none⟩=some (.string x.tx):=sm_;have hFW:wr.heap.size<(wr.alloc (.cells #[.string x.nm,.string x.tx] 40)).heap.size:=sm_;generalize (wr.alloc (.cells #[.string x.nm,.string x.tx] 40))=W at*;have hwW:w.heap.size<W.heap.size:=om_;have hbW:b<W.heap.size:=om_;refine wp_region_held_drew (S:=(fun u=>u.cell? ⟨w.heap.size,0,none⟩=some (.slice (some ⟨b,off,none⟩) fs.length cap)/\u.cell? ⟨wr.heap.size,0,none⟩=some (.string x.nm)/\u.cell? ⟨wr.heap.size,1,none⟩=some (.string x.tx)/\u.cell? ⟨b,off+q*2,none⟩=some (.string y.nm))) kr_ ?_ fun hH=>?_
 · ((try dsimp only);go_keep)
 refine tq 0 hH ?_
 try simp only [qq]
 refine rq 1 fun K hK=>?_;go_simp;refine (c84v hx _ hsx.out).mono ?_;rintro e w1 ⟨rfl,hb1⟩;have HB1:Hid (Below W.heap.size W w1):=((Below.refl _ _).drew).trans hb1;have p0:=(HB1.out.cell (p:=⟨w.heap.size,0,none⟩) hwW).trans t1;have p1:=(HB1.out.cell (p:=⟨wr.heap.size,0,none⟩) hFW).trans f0;have p2:=(HB1.out.cell (p:=⟨wr.heap.size,1,none⟩) hFW).trans f1;have p3:=(HB1.out.cell (p:=⟨b,off+q*2,none⟩) hbW).trans y1
 go_wp2_with fail
 clear hH;refine hK.out _ _ ?_ fun hH=>?_
 · ((try dsimp only);go_keep)
 clear hK K;refine tq 2 hH ?_;refine tq 3 hH ?_
 try simp only [qq]
 refine tq 4 hH ?_;refine tq 5 hH ?_
 try simp only [qq]
 refine tq 6 hH ?_;refine tq 7 hH ?_
 try simp only [qq]
 refine tq 8 hH ?_;refine tq 9 hH ?_
 try simp only [qq]
 refine tq 10 hH ?_;refine tq 11 hH ?_
 try simp only [qq]
 refine tq 12 hH ?_;refine tq 13 hH ?_
 try simp only [qq]
 refine tq 14 hH ?_;refine tq 15 hH ?_
 try simp only [qq]
 refine tq 16 hH ?_;refine tq 17 hH ?_
 try simp only [qq]
 refine tq 18 hH ?_
 try simp only [qq]
 refine wpAnyH_done kr_ ?_ _;have hB1:Below w.heap.size w w1:=HB.out.trans ((HBW.out.trans (HB1.out.mono om_)).mono HB.out.size);have hz1:w.heap.size+1<=w1.heap.size:=by have:=HB1.out.size;omega
 rw [hx,hy] at HS;have hd':Hid (∀ j,j<k+1->stepOk fs j=true):=fun j hj=>by
  rcases Nat.lt_or_ge j k with h | h
  · exact hdone.out j h
  obtain rfl:j=k:=om_;exact HS.out
 clear hH;go_wp2;go_roundw
 case rel=>exact ⟨k+1,om_,by go_num,hB1,p0,hz1,hd'⟩
 case measure=>simp [intOf];omega
theorem files_setCell {w:World} {g:Nat} {is:List F2} {q:Addr} {v:Value} (h:FilesAt w (some ⟨g,0,none⟩) is) (hq:q.block≠g):FilesAt (w.setCell q v) (some ⟨g,0,none⟩) is:=by
 rcases h with h | ⟨b,off,h1,h2,h3⟩
 · exact .inl h
 have hg:b=g:=by injection h1 with h1;injection h1 with h1 _;exact h1.symm
 have hne:∀ j,q≠⟨b,j,none⟩:=fun j e=>hq (by rw [e];exact hg);refine .inr ⟨b,off,h1,by simpa using h2,fun i hi=>?_⟩;rw [World.cell?_setCell_other _ _ _ _ (hne _),World.cell?_setCell_other _ _ _ _ (hne _)];exact h3 i hi
theorem cmp_neg:∀ (a b:List UInt8),Lib.compareBytes a b<0↔Op.bytesLess a b=true
 | [],[]=>by simp [Lib.compareBytes,Op.bytesLess]
 | [],_::_=>by simp [Lib.compareBytes,Op.bytesLess]
 | _::_,[]=>by simp [Lib.compareBytes,Op.bytesLess]
 | x::a,y::b=>by
  have ih:=cmp_neg a b;simp only [Lib.compareBytes,Op.bytesLess];by_cases h1:x<y
  · simp [h1]
  by_cases h2:y<x
  · have h3:¬ x=y:=fun e=>by subst e;exact UInt8.lt_irrefl x h2
    simp [h1,h2,h3]
  have h3:x=y:=UInt8.le_antisymm (UInt8.not_lt.1 h2) (UInt8.not_lt.1 h1);subst h3;simp [h1,ih]
theorem cmp_zero:∀ (a b:List UInt8),Lib.compareBytes a b=0↔a=b
 | [],[]=>by simp [Lib.compareBytes]
 | [],_::_=>by simp [Lib.compareBytes]
 | _::_,[]=>by simp [Lib.compareBytes]
 | x::a,y::b=>by
  have ih:=cmp_zero a b;simp only [Lib.compareBytes];by_cases h1:x<y
  · have h3:¬ x=y:=fun e=>by subst e;exact UInt8.lt_irrefl x h1
    simp [h1,h3]
  by_cases h2:y<x
  · have h3:¬ x=y:=fun e=>by subst e;exact UInt8.lt_irrefl x h2
    simp [h1,h2,h3]
  have h3:x=y:=UInt8.le_antisymm (UInt8.not_lt.1 h2) (UInt8.not_lt.1 h1);subst h3;simp [h1,ih]
def lt (a b:ByteArray):Bool:=Op.bytesLess a.toList b.toList
def cmpB (a b:ByteArray):Int:=Lib.compareBytes a.data.toList b.data.toList
theorem cmpB_neg (a b:ByteArray):cmpB a b<0↔lt a b=true:=by
 unfold cmpB lt;rw [cmp_neg,ByteArray.toList_eq,ByteArray.toList_eq]
theorem cmpB_zero (a b:ByteArray):cmpB a b=0↔a=b:=by
 unfold cmpB;rw [cmp_zero];exact ⟨fun h=>ByteArray.ext (Array.toList_inj.1 h),fun h=>by rw [h]⟩
theorem c153 (a b:ByteArray) (w:World):
 Calls prog 153 #[.string a,.string b] w fun e w'=>e=.returned (.int .i64 (cmpB a b))/\w'=w:=by
 have hrun:∀ u:World,(callFunc 173 #[.string a,.string b]).run prog u=.ok (.value (.int .i64 (cmpB a b))) u:=fun u=>by
  rw [run_callFunc_extern func173 kr_ kr_ kr_ (e:=Extern.BytealgCompare.compare) kr_,Lib.run_compareString];rfl
 go_enter func153,ntmps153;go_wp2;go_ret;exact ⟨rfl,rfl⟩
theorem c125 (a b:ByteArray) (w:World):
 Calls prog 125 #[.string a,.string b] w fun e w'=>e=.returned (.int .i64 (cmpB a b))/\w'=w:=by
 go_enter func125,ntmps125
 go_wp2_with fail
 refine (c153 a b _).mono ?_;rintro e w1 ⟨rfl,hw⟩;obtain rfl:=hw.symm;go_wp2;go_ret;exact ⟨rfl,rfl⟩
theorem c124 (x:F2) (b:ByteArray) (w:World):
 Calls prog 124 #[.agg #[.string x.nm,.string x.tx],.string b] w fun e w'=>e=.returned (.int .i64 (cmpB x.nm b))/\Below w.heap.size w w':=by
 go_enter func124,ntmps124
 go_wp2_with fail
 refine (c125 x.nm b _).mono ?_;rintro e w1 ⟨rfl,hw⟩;obtain rfl:=hw.symm;go_wp2;go_ret;exact ⟨rfl,bA_⟩
theorem less_trans:∀ (a b c:List UInt8),Op.bytesLess a b=true->Op.bytesLess b c=true->Op.bytesLess a c=true
 | _,[],_,h,_=>by simp [Op.bytesLess] at h
 | _,_::_,[],_,h=>by simp [Op.bytesLess] at h
 | [],_::_,_::_,_,_=>by simp [Op.bytesLess]
 | x::a,y::b,z::c,h,k=>by
  have ih:=less_trans a b c;simp only [Op.bytesLess,Bool.or_eq_true,Bool.and_eq_true,decide_eq_true_eq,beq_iff_eq] at h k ⊢;rcases h with h | ⟨rfl,h⟩
  · rcases k with k | ⟨rfl,k⟩
    · exact .inl (UInt8.lt_trans h k)
    exact .inl h
  rcases k with k | ⟨rfl,k⟩
  · exact .inl k
  exact .inr ⟨rfl,ih h k⟩
theorem less_irrefl:∀ (a:List UInt8),Op.bytesLess a a=false
 | []=>by simp [Op.bytesLess]
 | x::a=>by simp [Op.bytesLess,less_irrefl a]
theorem lt_trans' {a b c:ByteArray} (h:lt a b=true) (k:lt b c=true):lt a c=true:=less_trans _ _ _ h k
theorem lt_irrefl' (a:ByteArray):lt a a=false:=less_irrefl _
structure Place (fs:List F2) (t:ByteArray) (p:Nat) (f:Bool):Prop where
 le:p<=fs.length
 less:∀ j,j<p->lt (fs.getD j f2z).nm t=true
 more:∀ j,p<=j->j<fs.length->lt (fs.getD j f2z).nm t=false
 here:f=true↔p<fs.length/\(fs.getD p f2z).nm=t
def Asc (fs:List F2):Prop:=∀ i j,i<j->j<fs.length->lt (fs.getD i f2z).nm (fs.getD j f2z).nm=true
def Half (fs:List F2) (t:ByteArray) (i j:Nat):Prop:=(∀ q,q<i->lt (fs.getD q f2z).nm t=true)/\∀ q,j<=q->q<fs.length->lt (fs.getD q f2z).nm t=false
theorem half_up {fs:List F2} {t:ByteArray} {i j h:Nat} (hm:Asc fs) (hh:Half fs t i j) (hl:h<fs.length) (hx:lt (fs.getD h f2z).nm t=true):Half fs t (h+1) j:=by
 refine ⟨fun q hq=>?_,hh.2⟩;rcases Nat.lt_or_ge q h with h1 | h1
 · exact lt_trans' (hm q h h1 hl) hx
 obtain rfl:q=h:=om_;exact hx
theorem half_down {fs:List F2} {t:ByteArray} {i j h:Nat} (hm:Asc fs) (hh:Half fs t i j) (hx:lt (fs.getD h f2z).nm t=false):Half fs t i h:=by
 refine ⟨hh.1,fun q hq hl=>?_⟩;rcases Nat.lt_or_ge h q with h1 | h1
 · cases hc:lt (fs.getD q f2z).nm t
   · rfl
   rw [lt_trans' (hm h q h1 hl) hc] at hx;cases hx
 obtain rfl:q=h:=om_;exact hx
theorem c123 (a:Option Addr) (cap:Nat) (fs:List F2) (t:ByteArray) (w:World) (hl:fs.length<=40) (hat:FilesAt w a fs) (hm:Asc fs):
 Calls prog 123 #[.slice a fs.length cap,.string t,.func (.func 124) #[] #[]] w fun e w'=>(∃ p f,e=.returned (.tuple #[.int .i64 (p:Nat),.bool f])/\Place fs t p f)/\Below w.heap.size w w':=by
 obtain ⟨b,off,hc⟩:=files_some hat;have HC:Hid (fs=[]\/(a=some ⟨b,off,none⟩/\b<w.heap.size/\∀ i,i<fs.length->w.cell? ⟨b,off+i*2,none⟩=some (.string (fs.getD i f2z).nm)/\w.cell? ⟨b,off+i*2+1,none⟩=some (.string (fs.getD i f2z).tx))):=hc;have HM:Hid (Asc fs):=hm;clear hc hat hm;go_enter func123,ntmps123
 go_wp2_with fail
 go_loopw [9,10] (fun vi vj wr=>∃ i j:Nat,i<=j/\j<=fs.length/\vi=.int .i64 i/\vj=.int .i64 j/\Below w.heap.size w wr/\Hid (Half fs t i j)) (fun vi vj _=>(intOf vj).toNat - (intOf vi).toNat)
 case atStart=>exact ⟨0,fs.length,Nat.zero_le _,Nat.le_refl _,rfl,rfl,Below.refl _ _,⟨fun q h=>absurd h (Nat.not_lt_zero _),fun q h k=>om_⟩⟩
 obtain ⟨i,j,hij,hj,rfl,rfl,hb,hh⟩:=hrel;by_cases hlt:i<j;rotate_left
 · obtain rfl:i=j:=om_
   by_cases hin:i<fs.length;rotate_left
   · have HP:Hid (Place fs t i false):=⟨om_,hh.out.1,hh.out.2,so_⟩
     have hd:decide ((i:Int)<(fs.length:Int))=false:=decide_eq_false om_;go_wp2
     all_goals go_ret2
     all_goals exact ⟨⟨i,false,rfl,HP.out⟩,hb⟩
   rcases HC.out with hss | ⟨ha,hbw,hcell⟩
   · rw [hss] at hin;exact absurd hin (Nat.not_lt_zero _)
   subst ha;have g0:=(hb.cell (p:=⟨b,off+i*2,none⟩) hbw).trans (hcell i hin).1;have g1:=(hb.cell (p:=⟨b,off+i*2+1,none⟩) hbw).trans (hcell i hin).2;have HP:Hid (∀ f:Bool,(f=true↔(fs.getD i f2z).nm=t)->Place fs t i f):=fun f hf=>⟨om_,hh.out.1,hh.out.2,hf.trans ⟨fun h=>⟨hin,h⟩,fun h=>h.2⟩⟩;generalize fs.getD i f2z=x at*;clear hcell
   go_wp2_with fail
   refine (c124 x t wr).mono ?_;rintro e w1 ⟨rfl,hb1⟩;have hB1:Below w.heap.size w w1:=bT_ hb hb1;go_wp2
   all_goals go_ret2
   all_goals exact ⟨⟨i,_,rfl,HP.out _ (by rw [<- cmpB_zero];simp)⟩,hB1⟩
 rcases HC.out with hss | ⟨ha,hbw,hcell⟩
 · rw [hss] at hj;simp at hj;omega
 subst ha;have hhl:(i+j) / 2<fs.length:=om_;have g0:=(hb.cell (p:=⟨b,off+(i+j) / 2*2,none⟩) hbw).trans (hcell _ hhl).1;have g1:=(hb.cell (p:=⟨b,off+(i+j) / 2*2+1,none⟩) hbw).trans (hcell _ hhl).2;have HU:Hid (lt (fs.getD ((i+j) / 2) f2z).nm t=true->Half fs t ((i+j) / 2+1) j):=fun hx=>half_up HM.out hh.out hhl hx;have HD:Hid (lt (fs.getD ((i+j) / 2) f2z).nm t=false->Half fs t i ((i+j) / 2)):=fun hx=>half_down HM.out hh.out hx;generalize fs.getD ((i+j) / 2) f2z=x at*;clear hcell
 go_wp2_with fail
 refine (c124 x t wr).mono ?_;rintro e w1 ⟨rfl,hb1⟩;have hB1:Below w.heap.size w w1:=bT_ hb hb1;cases hx:lt x.nm t
 · have hc:¬ cmpB x.nm t<0:=fun h=>by rw [(cmpB_neg _ _).1 h] at hx;cases hx
   have hc1:decide (cmpB x.nm t<0)=false:=decide_eq_false hc;have hn:Hid (Half fs t i ((i+j) / 2)):=HD.out hx;clear hx hb1 HU HD;go_wp2;go_roundw
   case rel=>exact ⟨i,(i+j) / 2,om_,om_,rfl,by go_num,hB1,hn⟩
   case measure=>simp [intOf];omega
 have hc:cmpB x.nm t<0:=(cmpB_neg _ _).2 hx;have hn:Hid (Half fs t ((i+j) / 2+1) j):=HU.out hx;clear hx hb1 HU HD;go_wp2;go_roundw
 case rel=>exact ⟨(i+j) / 2+1,j,om_,om_,by go_num,rfl,hB1,hn⟩
 case measure=>simp [intOf];omega
theorem c86 (a:Option Addr) (cap:Nat) (fs:List F2) (t:ByteArray) (w:World) (hl:fs.length<=40) (hat:FilesAt w a fs) (hm:Asc fs):
 Calls prog 86 #[.agg #[.slice a fs.length cap],.string t] w fun e w'=>(∃ p f,e=.returned (.tuple #[.int .i64 (p:Nat),.bool f])/\Place fs t p f)/\Below w.heap.size w w':=by
 have HA:Hid (FilesAt w a fs):=hat;have HM:Hid (Asc fs):=hm;have hB0:Below w.heap.size w (w.alloc (.cells #[.slice a fs.length cap] 26)):=bA_;clear hat hm;go_enter func86,ntmps86
 go_wp2_with fail
 refine (c123 a cap fs t _ hl (files_below HA.out hB0) HM.out).mono ?_;rintro e w1 ⟨⟨p,f,rfl,hp⟩,hb1⟩;have HP:Hid (Place fs t p f):=hp;clear hp;go_wp2;go_ret2;exact ⟨⟨p,f,rfl,HP.out⟩,bT_ hB0 hb1⟩
theorem asc_of {fs:List F2} (h:treeOk fs):Asc fs:=by
 have step:∀ j,j+1<fs.length->lt (fs.getD j f2z).nm (fs.getD (j+1) f2z).nm=true:=fun j hj=>by
  have:=h.2 (j+1) hj;unfold stepOk at this;simp only [Bool.and_eq_true,Bool.or_eq_true,decide_eq_true_eq] at this;rcases this.2 with h | h
  · omega
  exact h
 intro i j hij
 induction j with
 | zero=>omega
 | succ j ih=>
  intro hj;rcases Nat.lt_or_ge i j with h1 | h1
  · exact lt_trans' (ih h1 om_) (step j hj)
  obtain rfl:i=j:=om_;exact step i hj
theorem c68 (a:Option Addr) (cap:Nat) (fs:List F2) (nm:ByteArray) (w:World) (hl:fs.length<=1048576) (hat:FilesAt w a fs):
 Calls prog 68 #[.agg #[.slice a fs.length cap],.string nm] w fun e w'=>(∃ r:Int,e=.returned (.int .i64 r)/\((r=-1/\∀ i,i<fs.length->(fs.getD i f2z).nm≠nm)\/∃ i:Nat,r=i/\i<fs.length/\(fs.getD i f2z).nm=nm))/\Below w.heap.size w w':=by
 obtain ⟨b,off,hc⟩:=files_some hat;have HC:Hid (fs=[]\/(a=some ⟨b,off,none⟩/\b<w.heap.size/\∀ i,i<fs.length->w.cell? ⟨b,off+i*2,none⟩=some (.string (fs.getD i f2z).nm)/\w.cell? ⟨b,off+i*2+1,none⟩=some (.string (fs.getD i f2z).tx))):=hc;have HB:Below w.heap.size w (w.alloc (.cells #[.slice a fs.length cap] 26)):=bA_;clear hc hat;go_enter func68,ntmps68
 go_wp2_with fail
 go_loop [5] (fun i=>∃ k:Nat,k<=fs.length/\i=.int .i64 k/\Hid (∀ j,j<k->(fs.getD j f2z).nm≠nm)) (fun i=>fs.length - (intOf i).toNat)
 case atStart=>exact ⟨0,Nat.zero_le _,rfl,fun j h=>absurd h (Nat.not_lt_zero _)⟩
 obtain ⟨k,hk,rfl,hno⟩:=hrel;by_cases hlt:k<fs.length;rotate_left
 · go_wp2
   go_ret;exact ⟨⟨-1,rfl,.inl ⟨rfl,fun i hi=>hno.out i om_⟩⟩,HB⟩
 rcases HC.out with hss | ⟨ha,hbw,hcell⟩
 · rw [hss] at hlt;exact absurd hlt (Nat.not_lt_zero _)
 subst ha;have g0:=(HB.cell (p:=⟨b,off+k*2,none⟩) hbw).trans (hcell k hlt).1;have HX:Hid (∃ x,x=fs.getD k f2z):=⟨_,rfl⟩;obtain ⟨x,hx⟩:=HX.out;rw [<- hx] at g0;have HXE:Hid (x=fs.getD k f2z):=hx;clear hcell hx HX;cases hq:(x.nm.toList==nm.toList)
 · have hno':Hid (∀ j,j<k+1->(fs.getD j f2z).nm≠nm):=fun j hj=>by
    rcases Nat.lt_or_ge j k with h | h
    · exact hno.out j h
    obtain rfl:j=k:=om_;rw [<- HXE.out];intro e;rw [e] at hq;simp at hq
   go_wp2
   go_round
   case rel=>exact ⟨k+1,om_,by go_num,hno'⟩
   case measure=>simp [intOf];omega
 have he:x.nm=nm:=by
  have:=beq_iff_eq.1 hq;rw [ByteArray.toList_eq,ByteArray.toList_eq] at this;exact ByteArray.ext (Array.toList_inj.1 this)
 have HR:Hid (∃ i:Nat,(k:Int)=i/\i<fs.length/\(fs.getD i f2z).nm=nm):=⟨k,rfl,hlt,by rw [<- HXE.out];exact he⟩;clear he;go_wp2;go_ret;exact ⟨⟨_,rfl,.inr HR.out⟩,HB⟩
end Go.Proofs.YtlckdgjfniglfaaGreatDoor.T
