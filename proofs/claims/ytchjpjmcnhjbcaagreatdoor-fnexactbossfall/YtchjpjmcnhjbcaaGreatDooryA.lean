import Derived.Test.YtchjpjmcnhjbcaaGreatDooreQS
import Derived.Test.YtchjpjmcnhjbcaaGreatDoorkH
import Derived.Lib.Bytealg
import Derived.Deep.Cut
import Derived.Deep.CutRange
set_option maxRecDepth 100000
set_option maxHeartbeats 8000000
set_option linter.unusedVariables false
namespace Go.Proofs.YtchjpjmcnhjbcaaGreatDoor.T
open Proofs.Tryz Go.RowKit
variable {w:World} {a:OA} {v:Bool} {t:BY} {h i j:Nat}
theorem Fa (q:Nat) (h:q<1048577):IntKind.i64.wrap (q:Int)=(q:Int):=by
 have h1:(q:Int) % 2^64=q:=O0;simp only [IntKind.wrap,IntKind.bits,IntKind.signed,h1];rw [I7 U7]
structure F2 where
 nm:BY
 tx:BY
def I8:F2:=⟨⟨#[]⟩,⟨#[]⟩⟩
def G6 (w:World) (a:OA) (rs:List F2):Prop:=
 rs=[]\/∃ b off,a=some ⟨b,off,none⟩/\b<w.heap.size/\∀ i,i<rs.length->w.cell? ⟨b,off+i*2,none⟩=some (.string (rs.getD i I8).nm)/\w.cell? ⟨b,off+i*2+1,none⟩=some (.string (rs.getD i I8).tx)
theorem Z9 {rs:List F2} (h:G6 w a rs):∃ b off,(rs=[]\/(a=some ⟨b,off,none⟩/\b<w.heap.size/\∀ i,i<rs.length->w.cell? ⟨b,off+i*2,none⟩=some (.string (rs.getD i I8).nm)/\w.cell? ⟨b,off+i*2+1,none⟩=some (.string (rs.getD i I8).tx))):=by
 rcases h with h | ⟨b,off,h⟩
 · exact ⟨0,0,.inl h⟩
 exact ⟨b,off,.inr h⟩
theorem J5 {w':World} {rs:List F2} (h:G6 w a rs) (c:Bw w w'):G6 w' a rs:=by
 rcases h with h | ⟨b,off,h1,h2,e⟩
 · exact .inl h
 exact .inr ⟨b,off,h1,O9 h2 c.size,fun i d=>by rw [c.cell (by exact h2),c.cell (by exact h2)];exact e i d⟩
def F2.le (x:F2) (B:Nat):Prop:=x.nm.size<=B/\x.tx.size<=B
theorem Xx (u:World) (B j m:Nat) (b a:Value) (h0:m≠j) (h1:m≠j+1):((u.setCell ⟨B,j,none⟩ b).setCell ⟨B,j+1,none⟩ a).cell? ⟨B,m,none⟩=u.cell? ⟨B,m,none⟩:=by
 rw [Na _ _ _ _ (Ed (Ne.symm h1)),Na _ _ _ _ (Ed (Ne.symm h0))]
theorem Fp:(prog.info? 133).map (fun i=>(i.zero,i.size,i.bytes))=some (some (.agg #[.string ⟨#[]⟩,.string ⟨#[]⟩]),2,32):=Y2
def Q_ (x:F2):Bool:=Y5 x.nm.data.toList&&decide ((x.tx.size:Int)<=300)
theorem bU (x:F2) (w:World) (b:x.le 1048700):
 Calls prog 186 #[.agg #[.string x.nm,.string x.tx]] w fun e w'=>e=.returned (.bool (Q_ x))/\Bw w w':=by
 have a:Hid (Q_ x=(Y5 x.nm.data.toList&&decide ((x.tx.size:Int)<=300))):=rfl;obtain ⟨h1,h2⟩:=b;go_enter func186,ntmps186
 go_wp2_with fail
 refine (NJ _ _ h1).mono ?_;rintro e w1 ⟨rfl,rfl⟩;cases hn:Y5 x.nm.data.toList
 all_goals
  rw [hn] at a;go_wp2
  all_goals go_ret
  all_goals exact ⟨J9 (by rw [a.out];simp),P6⟩
theorem zU (x:F2) (w:World) (b:x.le 1048700):
 Calls prog 170 #[.agg #[.string x.nm,.string x.tx]] w fun e w'=>e=.returned (.bool (Q_ x))/\Bw w w':=by
 have a:Hid (Q_ x=(Y5 x.nm.data.toList&&decide ((x.tx.size:Int)<=300))):=rfl;obtain ⟨h1,h2⟩:=b;go_enter func170,ntmps170
 go_wp2_with fail
 refine (c116 _ _ h1).mono ?_;rintro e w1 ⟨rfl,rfl⟩;cases hn:Y5 x.nm.data.toList
 all_goals
  rw [hn] at a;go_wp2
  all_goals go_ret
  all_goals exact ⟨J9 (by rw [a.out];simp),P6⟩
theorem MX {x:F2} (hv:Q_ x=v) (w:World) (a:x.le 1048700):
 Calls prog 186 #[.agg #[.string x.nm,.string x.tx]] w fun e w'=>e=.returned (.bool v)/\Bw w w':=hv▸bU x w a
theorem rX {x:F2} (hv:Q_ x=v) (w:World) (a:x.le 1048700):
 Calls prog 170 #[.agg #[.string x.nm,.string x.tx]] w fun e w'=>e=.returned (.bool v)/\Bw w w':=hv▸zU x w a
def Ce (fs:List F2) (k:Nat):Bool:=Q_ (fs.getD k I8)&&(decide (k=0) || Op.bytesLess (fs.getD (k - 1) I8).nm.toList (fs.getD k I8).nm.toList)
def G_ (fs:List F2):Prop:=fs.length<=40/\∀ k,k<fs.length->Ce fs k=true
theorem VZ (a:OA) (t:Nat) (fs:List F2) (w:World) (hl:fs.length<=1048576) (F:∀ i,(fs.getD i I8).le 1048576) (I:G6 w a fs):
 Calls prog 191 #[.agg #[.slice a fs.length t]] w fun e w'=>(∃ b:Bool,e=.returned (.bool b)/\(b=true↔G_ fs))/\Bw w w':=by
 obtain ⟨b,off,hc⟩:=Z9 I;have R:=U0 hc;clear hc I;by_cases hbig:40<fs.length
 · go_enter func191,ntmps191;go_wp2;go_ret;exact ⟨⟨false,rfl,by simp [G_];omega⟩,P6⟩
 go_enter func191,ntmps191
 go_wp2_with fail
 go_loopw [3] (fun i wr=>∃ k:Nat,k<=fs.length/\i=.int .i64 k/\Below w.heap.size w wr/\wr.cell? ⟨w.heap.size,0,none⟩=some (.slice a fs.length t)/\w.heap.size+1<=wr.heap.size/\Hid (∀ j,j<k->Ce fs j=true)) (fun i _=>fs.length - (RowKit.intOf i).toNat)
 case atStart=>exact ⟨0,J4 _,rfl,P6,X4,X4,fun j h=>absurd h (J8 _)⟩
 obtain ⟨k,hk,rfl,d,t0,D,B⟩:=hrel;by_cases g:k<fs.length;rotate_left
 · have l:Hid (G_ fs):=⟨O0,fun j H=>B.out j O0⟩;go_wp2;go_ret;exact ⟨⟨true,rfl,by simp only [true_iff];exact l.out⟩,d⟩
 obtain ⟨ha,s,m⟩:=Cc R.out g;subst ha;have J:=U0 d;have g0:=(d.cell (p:=⟨b,off+k*2,none⟩) s).trans (m k g).1;have g1:=(d.cell (p:=⟨b,off+k*2+1,none⟩) s).trans (m k g).2;have n:=O9 s d.size;have E:Hid ((fs.getD k I8).le 1048700):=⟨G7 (F k).1 O0,G7 (F k).2 O0⟩;rcases su k with h0 | h0
 · subst h0;have f:Hid (Ce fs 0=Q_ (fs.getD 0 I8)):=by simp [Ce,Hid]
   simp only [Fq,En] at g0 g1;generalize fs.getD 0 I8=x at*;clear m d;cases hx:Q_ x
   all_goals
    go_wp2_with fail
    refine wp_region_held_drew (S:=(fun u=>u.cell? ⟨w.heap.size,0,none⟩=some (vL (some ⟨b,off,none⟩) fs.length t)/\u.cell? ⟨b,off,none⟩=some (vS x.nm)/\u.cell? ⟨b,off+1,none⟩=some (vS x.tx))) Y2 ?_ fun hH=>?_
    · ((try dsimp only);go_keep)
    refine tq 0 hH ?_;refine Y0 1 ?_;refine tq 2 hH ?_;refine Y0 3 ?_;refine Y0 4 ?_;refine rq 5 fun K o=>?_;go_simp;refine (MX hx _ E.out).mono ?_;rintro e v ⟨rfl,C⟩;have c:Hid (Bw wr v):=((Z4 _ _).drew).trans C;have z:=(c.out.cell (p:=⟨w.heap.size,0,none⟩) (by show w.heap.size<wr.heap.size;omega)).trans t0;have N:=(c.out.cell (p:=⟨b,off,none⟩) n).trans g0;have L:=(c.out.cell (p:=⟨b,off+1,none⟩) n).trans g1
    go_wp2_with fail
    clear hH;refine PL o fun hH=>?_;clear o K
    first|refine tq 6 hH ?_|refine uq 6 hH ?_
    first|refine tq 7 hH ?_|refine uq 7 hH ?_
    try simp only [qq]
    first|refine tq 8 hH ?_|refine uq 8 hH ?_
    first|refine tq 9 hH ?_|refine uq 9 hH ?_
    try simp only [qq]
    first|refine tq 10 hH ?_|refine uq 10 hH ?_
    first|refine tq 11 hH ?_|refine uq 11 hH ?_
    try simp only [qq]
    first|refine tq 12 hH ?_|refine uq 12 hH ?_
    first|refine tq 13 hH ?_|refine uq 13 hH ?_
    try simp only [qq]
    first|refine tq 14 hH ?_|refine uq 14 hH ?_
    first|refine tq 15 hH ?_|refine uq 15 hH ?_
    try simp only [qq]
    first|refine tq 16 hH ?_|refine uq 16 hH ?_
    first|refine tq 17 hH ?_|refine uq 17 hH ?_
    try simp only [qq]
    first|refine tq 18 hH ?_|refine uq 18 hH ?_
    first|refine tq 19 hH ?_|refine uq 19 hH ?_
    try simp only [qq]
    first|refine tq 20 hH ?_|refine uq 20 hH ?_
    first|refine tq 21 hH ?_|refine uq 21 hH ?_
    try simp only [qq]
    first|refine tq 22 hH ?_|refine uq 22 hH ?_
    first|refine tq 23 hH ?_|refine uq 23 hH ?_
    try simp only [qq]
    first|refine tq 24 hH ?_|refine uq 24 hH ?_
    first|refine tq 25 hH ?_|refine uq 25 hH ?_
    try simp only [qq]
    first|refine tq 26 hH ?_|refine uq 26 hH ?_
    try simp only [qq]
    refine wdn ?_;have r:=X5 J.out c.out;have A:=G7 D c.out.size;rw [hx] at f
    first
    |(have l:Hid (∀ j,j<0+1->Ce fs j=true):=fun j H=>by
       rcases Q7 j 0 with h | h
       · exact B.out j h
       obtain rfl:j=0:=O0;exact f.out
      clear hH;go_wp2;go_roundw
      case rel=>exact ⟨0+1,O0,by go_num,r,z,A,l⟩
      case measure=>simp [RowKit.intOf];omega)
    |(clear hH
      go_wp2;go_ret;exact ⟨⟨false,rfl,by simp only [fF,false_iff];intro h;have:=h.2 _ g;rw [f.out] at this;cases this⟩,r⟩)
 obtain ⟨q,O⟩:∃ q,q+1=k:=⟨k - 1,O0⟩;have g2:=(d.cell (p:=⟨b,off+q*2,none⟩) s).trans (m q O0).1;have f:Hid (Ce fs k=(Q_ (fs.getD k I8)&&Op.bytesLess (fs.getD q I8).nm.toList (fs.getD k I8).nm.toList)):=by
  have e1:decide (k=0)=false:=S9 O0;have Q:k - 1=q:=O0;unfold Ce;rw [e1,Q];rfl
 have P:(0:Int)<(k:Int):=O0;have hm1:=C_ P;generalize fs.getD k I8=x at*;generalize fs.getD q I8=y at*;have hwr:IntKind.i64.wrap ((k:Int) - 1)=(q:Int):=by rw [show (k:Int) - 1=(q:Int) by omega];exact Fa q O0
 have hql:(q:Int)<(fs.length:Int):=O0;clear O;clear m d;cases hx:Q_ x
 all_goals cases hy:Op.bytesLess y.nm.toList x.nm.toList
 all_goals
  go_wp2_with fail
  refine wp_region_held_drew (S:=(fun u=>u.cell? ⟨w.heap.size,0,none⟩=some (vL (some ⟨b,off,none⟩) fs.length t)/\u.cell? ⟨b,off+k*2,none⟩=some (vS x.nm)/\u.cell? ⟨b,off+k*2+1,none⟩=some (vS x.tx)/\u.cell? ⟨b,off+q*2,none⟩=some (vS y.nm))) Y2 ?_ fun hH=>?_
  · ((try dsimp only);go_keep)
  refine tq 0 hH ?_;refine Y0 1 ?_;refine tq 2 hH ?_;refine Y0 3 ?_;refine Y0 4 ?_;refine rq 5 fun K o=>?_;go_simp;refine (MX hx _ E.out).mono ?_;rintro e v ⟨rfl,C⟩;have c:Hid (Bw wr v):=((Z4 _ _).drew).trans C;have z:=(c.out.cell (p:=⟨w.heap.size,0,none⟩) (by show w.heap.size<wr.heap.size;omega)).trans t0;have N:=(c.out.cell (p:=⟨b,off+k*2,none⟩) n).trans g0;have L:=(c.out.cell (p:=⟨b,off+k*2+1,none⟩) n).trans g1;have p3:=(c.out.cell (p:=⟨b,off+q*2,none⟩) n).trans g2
  go_wp2_with fail
  clear hH;refine PL o fun hH=>?_;clear o K
  first|refine tq 6 hH ?_|refine uq 6 hH ?_
  first|refine tq 7 hH ?_|refine uq 7 hH ?_
  try simp only [qq]
  first|refine tq 8 hH ?_|refine uq 8 hH ?_
  first|refine tq 9 hH ?_|refine uq 9 hH ?_
  try simp only [qq]
  first|refine tq 10 hH ?_|refine uq 10 hH ?_
  first|refine tq 11 hH ?_|refine uq 11 hH ?_
  try simp only [qq]
  first|refine tq 12 hH ?_|refine uq 12 hH ?_
  first|refine tq 13 hH ?_|refine uq 13 hH ?_
  try simp only [qq]
  first|refine tq 14 hH ?_|refine uq 14 hH ?_
  first|refine tq 15 hH ?_|refine uq 15 hH ?_
  try simp only [qq]
  first|refine tq 16 hH ?_|refine uq 16 hH ?_
  first|refine tq 17 hH ?_|refine uq 17 hH ?_
  try simp only [qq]
  first|refine tq 18 hH ?_|refine uq 18 hH ?_
  first|refine tq 19 hH ?_|refine uq 19 hH ?_
  try simp only [qq]
  first|refine tq 20 hH ?_|refine uq 20 hH ?_
  first|refine tq 21 hH ?_|refine uq 21 hH ?_
  try simp only [qq]
  first|refine tq 22 hH ?_|refine uq 22 hH ?_
  first|refine tq 23 hH ?_|refine uq 23 hH ?_
  try simp only [qq]
  first|refine tq 24 hH ?_|refine uq 24 hH ?_
  first|refine tq 25 hH ?_|refine uq 25 hH ?_
  try simp only [qq]
  first|refine tq 26 hH ?_|refine uq 26 hH ?_
  try simp only [qq]
  refine wdn ?_;have r:=X5 J.out c.out;have A:=G7 D c.out.size;rw [hx,hy] at f
  first
  |(have l:Hid (∀ j,j<k+1->Ce fs j=true):=fun j H=>by
     rcases Q7 j k with h | h
     · exact B.out j h
     obtain rfl:j=k:=O0;exact f.out
    clear hH;go_wp2;go_roundw
    case rel=>exact ⟨k+1,O0,by go_num,r,z,A,l⟩
    case measure=>simp [RowKit.intOf];omega)
  |(clear hH
    go_wp2;go_ret;exact ⟨⟨false,rfl,by simp only [fF,false_iff];intro h;have:=h.2 _ g;rw [f.out] at this;cases this⟩,r⟩)
theorem gZ (a:OA) (z:Nat) (fs:List F2) (w:World) (hl:fs.length<=1048576) (L:∀ i,(fs.getD i I8).le 1048576) (P:G6 w a fs):
 Calls prog 120 #[.agg #[.slice a fs.length z]] w fun e w'=>(∃ b:Bool,e=.returned (.bool b)/\(b=true↔G_ fs))/\Bw w w':=by
 obtain ⟨b,off,hc⟩:=Z9 P;have HC:=U0 hc;clear hc P;by_cases hbig:40<fs.length
 · go_enter func120,ntmps120;go_wp2;go_ret;exact ⟨⟨false,rfl,by simp [G_];omega⟩,P6⟩
 go_enter func120,ntmps120
 go_wp2_with fail
 go_loopw [12] (fun i wr=>∃ k:Nat,k<=fs.length/\i=.int .i64 k/\Below w.heap.size w wr/\wr.cell? ⟨w.heap.size,0,none⟩=some (.slice a fs.length z)/\w.heap.size+1<=wr.heap.size/\Hid (∀ j,j<k->Ce fs j=true)) (fun i _=>fs.length - (RowKit.intOf i).toNat)
 case atStart=>exact ⟨0,J4 _,rfl,P6,X4,X4,fun j h=>absurd h (J8 _)⟩
 obtain ⟨k,hk,rfl,d,t0,hz,E⟩:=hrel;by_cases m:k<fs.length;rotate_left
 · have n:Hid (G_ fs):=⟨O0,fun j N=>E.out j O0⟩;go_wp2;go_ret;exact ⟨⟨true,rfl,by simp only [true_iff];exact n.out⟩,d⟩
 obtain ⟨ha,v,o⟩:=Cc HC.out m;subst ha;have A:=U0 d;have g0:=(d.cell (p:=⟨b,off+k*2,none⟩) v).trans (o k m).1;have g1:=(d.cell (p:=⟨b,off+k*2+1,none⟩) v).trans (o k m).2;have Y:=O9 v d.size;have J:Hid ((fs.getD k I8).le 1048700):=⟨G7 (L k).1 O0,G7 (L k).2 O0⟩;rcases su k with h0 | h0
 · subst h0;have f:Hid (Ce fs 0=Q_ (fs.getD 0 I8)):=by simp [Ce,Hid]
   simp only [Fq,En] at g0 g1;generalize fs.getD 0 I8=x at*;clear o d;cases hx:Q_ x
   all_goals
    go_wp2_with fail
    have g:Hid (Bw wr (wr.alloc (.cells #[vS x.nm,vS x.tx] 133))):=P6;have t1:=(g.out.cell (p:=⟨w.heap.size,0,none⟩) (by show w.heap.size<wr.heap.size;omega)).trans t0;have I:(wr.alloc (.cells #[vS x.nm,vS x.tx] 133)).cell? ⟨wr.heap.size,0,none⟩=some (vS x.nm):=X4;have H:(wr.alloc (.cells #[vS x.nm,vS x.tx] 133)).cell? ⟨wr.heap.size,1,none⟩=some (vS x.tx):=X4;have s:wr.heap.size<(wr.alloc (.cells #[vS x.nm,vS x.tx] 133)).heap.size:=X4;generalize (wr.alloc (.cells #[vS x.nm,vS x.tx] 133))=W at*;have D:w.heap.size<W.heap.size:=O0;have O:b<W.heap.size:=O0;refine wp_region_held_drew (S:=(fun u=>u.cell? ⟨w.heap.size,0,none⟩=some (vL (some ⟨b,off,none⟩) fs.length z)/\u.cell? ⟨wr.heap.size,0,none⟩=some (vS x.nm)/\u.cell? ⟨wr.heap.size,1,none⟩=some (vS x.tx))) Y2 ?_ fun hH=>?_
    · ((try dsimp only);go_keep)
    refine Y0 0 ?_;refine rq 1 fun K r=>?_;go_simp;refine (rX hx _ J.out).mono ?_;rintro e l ⟨rfl,F⟩;have c:Hid (Bw W l):=((Z4 _ _).drew).trans F;have B:=(c.out.cell (p:=⟨w.heap.size,0,none⟩) D).trans t1;have U:=(c.out.cell (p:=⟨wr.heap.size,0,none⟩) s).trans I;have R:=(c.out.cell (p:=⟨wr.heap.size,1,none⟩) s).trans H
    go_wp2_with fail
    clear hH;refine PL r fun hH=>?_;clear r K
    first|refine tq 2 hH ?_|refine uq 2 hH ?_
    first|refine tq 3 hH ?_|refine uq 3 hH ?_
    try simp only [qq]
    first|refine tq 4 hH ?_|refine uq 4 hH ?_
    first|refine tq 5 hH ?_|refine uq 5 hH ?_
    try simp only [qq]
    first|refine tq 6 hH ?_|refine uq 6 hH ?_
    first|refine tq 7 hH ?_|refine uq 7 hH ?_
    try simp only [qq]
    first|refine tq 8 hH ?_|refine uq 8 hH ?_
    first|refine tq 9 hH ?_|refine uq 9 hH ?_
    try simp only [qq]
    first|refine tq 10 hH ?_|refine uq 10 hH ?_
    first|refine tq 11 hH ?_|refine uq 11 hH ?_
    try simp only [qq]
    first|refine tq 12 hH ?_|refine uq 12 hH ?_
    first|refine tq 13 hH ?_|refine uq 13 hH ?_
    try simp only [qq]
    first|refine tq 14 hH ?_|refine uq 14 hH ?_
    first|refine tq 15 hH ?_|refine uq 15 hH ?_
    try simp only [qq]
    first|refine tq 16 hH ?_|refine uq 16 hH ?_
    first|refine tq 17 hH ?_|refine uq 17 hH ?_
    try simp only [qq]
    first|refine tq 18 hH ?_|refine uq 18 hH ?_
    try simp only [qq]
    refine wdn ?_;have t:=A.out.trans ((g.out.trans (c.out.mono O0)).mono A.out.size);have C:w.heap.size+1<=l.heap.size:=by have:=c.out.size;omega
    rw [hx] at f
    first
    |(have n:Hid (∀ j,j<0+1->Ce fs j=true):=fun j N=>by
       rcases Q7 j 0 with h | h
       · exact E.out j h
       obtain rfl:j=0:=O0;exact f.out
      clear hH;go_wp2;go_roundw
      case rel=>exact ⟨0+1,O0,by go_num,t,B,C,n⟩
      case measure=>simp [RowKit.intOf];omega)
    |(clear hH
      go_wp2;go_ret;exact ⟨⟨false,rfl,by simp only [fF,false_iff];intro h;have:=h.2 _ m;rw [f.out] at this;cases this⟩,t⟩)
 obtain ⟨q,V⟩:∃ q,q+1=k:=⟨k - 1,O0⟩;have g2:=(d.cell (p:=⟨b,off+q*2,none⟩) v).trans (o q O0).1;have f:Hid (Ce fs k=(Q_ (fs.getD k I8)&&Op.bytesLess (fs.getD q I8).nm.toList (fs.getD k I8).nm.toList)):=by
  have e1:decide (k=0)=false:=S9 O0;have Z:k - 1=q:=O0;unfold Ce;rw [e1,Z];rfl
 have X:(0:Int)<(k:Int):=O0;have hm1:=C_ X;generalize fs.getD k I8=x at*;generalize fs.getD q I8=y at*;have hwr:IntKind.i64.wrap ((k:Int) - 1)=(q:Int):=by rw [show (k:Int) - 1=(q:Int) by omega];exact Fa q O0
 have hql:(q:Int)<(fs.length:Int):=O0;clear V;clear o d;cases hx:Q_ x
 all_goals cases hy:Op.bytesLess y.nm.toList x.nm.toList
 all_goals
  go_wp2_with fail
  have g:Hid (Bw wr (wr.alloc (.cells #[vS x.nm,vS x.tx] 133))):=P6;have t1:=(g.out.cell (p:=⟨w.heap.size,0,none⟩) (by show w.heap.size<wr.heap.size;omega)).trans t0;have Q:=(g.out.cell (p:=⟨b,off+q*2,none⟩) Y).trans g2;have I:(wr.alloc (.cells #[vS x.nm,vS x.tx] 133)).cell? ⟨wr.heap.size,0,none⟩=some (vS x.nm):=X4;have H:(wr.alloc (.cells #[vS x.nm,vS x.tx] 133)).cell? ⟨wr.heap.size,1,none⟩=some (vS x.tx):=X4;have s:wr.heap.size<(wr.alloc (.cells #[vS x.nm,vS x.tx] 133)).heap.size:=X4;generalize (wr.alloc (.cells #[vS x.nm,vS x.tx] 133))=W at*;have D:w.heap.size<W.heap.size:=O0;have O:b<W.heap.size:=O0;refine wp_region_held_drew (S:=(fun u=>u.cell? ⟨w.heap.size,0,none⟩=some (vL (some ⟨b,off,none⟩) fs.length z)/\u.cell? ⟨wr.heap.size,0,none⟩=some (vS x.nm)/\u.cell? ⟨wr.heap.size,1,none⟩=some (vS x.tx)/\u.cell? ⟨b,off+q*2,none⟩=some (vS y.nm))) Y2 ?_ fun hH=>?_
  · ((try dsimp only);go_keep)
  refine Y0 0 ?_;refine rq 1 fun K r=>?_;go_simp;refine (rX hx _ J.out).mono ?_;rintro e l ⟨rfl,F⟩;have c:Hid (Bw W l):=((Z4 _ _).drew).trans F;have B:=(c.out.cell (p:=⟨w.heap.size,0,none⟩) D).trans t1;have U:=(c.out.cell (p:=⟨wr.heap.size,0,none⟩) s).trans I;have R:=(c.out.cell (p:=⟨wr.heap.size,1,none⟩) s).trans H;have p3:=(c.out.cell (p:=⟨b,off+q*2,none⟩) O).trans Q
  go_wp2_with fail
  clear hH;refine PL r fun hH=>?_;clear r K
  first|refine tq 2 hH ?_|refine uq 2 hH ?_
  first|refine tq 3 hH ?_|refine uq 3 hH ?_
  try simp only [qq]
  first|refine tq 4 hH ?_|refine uq 4 hH ?_
  first|refine tq 5 hH ?_|refine uq 5 hH ?_
  try simp only [qq]
  first|refine tq 6 hH ?_|refine uq 6 hH ?_
  first|refine tq 7 hH ?_|refine uq 7 hH ?_
  try simp only [qq]
  first|refine tq 8 hH ?_|refine uq 8 hH ?_
  first|refine tq 9 hH ?_|refine uq 9 hH ?_
  try simp only [qq]
  first|refine tq 10 hH ?_|refine uq 10 hH ?_
  first|refine tq 11 hH ?_|refine uq 11 hH ?_
  try simp only [qq]
  first|refine tq 12 hH ?_|refine uq 12 hH ?_
  first|refine tq 13 hH ?_|refine uq 13 hH ?_
  try simp only [qq]
  first|refine tq 14 hH ?_|refine uq 14 hH ?_
  first|refine tq 15 hH ?_|refine uq 15 hH ?_
  try simp only [qq]
  first|refine tq 16 hH ?_|refine uq 16 hH ?_
  first|refine tq 17 hH ?_|refine uq 17 hH ?_
  try simp only [qq]
  first|refine tq 18 hH ?_|refine uq 18 hH ?_
  try simp only [qq]
  refine wdn ?_;have t:=A.out.trans ((g.out.trans (c.out.mono O0)).mono A.out.size);have C:w.heap.size+1<=l.heap.size:=by have:=c.out.size;omega
  rw [hx,hy] at f
  first
  |(have n:Hid (∀ j,j<k+1->Ce fs j=true):=fun j N=>by
     rcases Q7 j k with h | h
     · exact E.out j h
     obtain rfl:j=k:=O0;exact f.out
    clear hH;go_wp2;go_roundw
    case rel=>exact ⟨k+1,O0,by go_num,t,B,C,n⟩
    case measure=>simp [RowKit.intOf];omega)
  |(clear hH
    go_wp2;go_ret;exact ⟨⟨false,rfl,by simp only [fF,false_iff];intro h;have:=h.2 _ m;rw [f.out] at this;cases this⟩,t⟩)
theorem zq {g:Nat} {is:List F2} {q:Addr} {v:Value} (h:G6 w (some ⟨g,0,none⟩) is) (c:q.block≠g):G6 (w.setCell q v) (some ⟨g,0,none⟩) is:=by
 rcases h with h | ⟨b,off,h1,h2,k⟩
 · exact .inl h
 have f:b=g:=by injection h1 with h1;injection h1 with h1 _;exact h1.symm
 have a:∀ j,q≠⟨b,j,none⟩:=fun j e=>c (by rw [e];exact f);refine .inr ⟨b,off,h1,by simpa using h2,fun i d=>?_⟩;rw [Na _ _ _ _ (a _),Na _ _ _ _ (a _)];exact k i d
theorem cmp_neg:∀ (a b:List UInt8),Lib.compareBytes a b<0↔Op.bytesLess a b=true
 | [],[]=>by simp [Lib.compareBytes,Op.bytesLess]
 | [],_::_=>by simp [Lib.compareBytes,Op.bytesLess]
 | _::_,[]=>by simp [Lib.compareBytes,Op.bytesLess]
 | x::a,y::b=>by
  have d:=cmp_neg a b;simp only [Lib.compareBytes,Op.bytesLess];by_cases h1:x<y
  · simp [h1]
  by_cases h2:y<x
  · have c:¬ x=y:=fun e=>by subst e;exact EH x h2
    simp [h1,h2,c]
  have c:=UInt8.le_antisymm (rE.1 h2) (rE.1 h1);subst c;simp [h1,d]
theorem bH:∀ (a b:List UInt8),Lib.compareBytes a b=0↔a=b
 | [],[]=>by simp [Lib.compareBytes]
 | [],_::_=>by simp [Lib.compareBytes]
 | _::_,[]=>by simp [Lib.compareBytes]
 | x::a,y::b=>by
  have d:=bH a b;simp only [Lib.compareBytes];by_cases h1:x<y
  · have c:¬ x=y:=fun e=>by subst e;exact EH x h1
    simp [h1,c]
  by_cases h2:y<x
  · have c:¬ x=y:=fun e=>by subst e;exact EH x h2
    simp [h1,h2,c]
  have c:=UInt8.le_antisymm (rE.1 h2) (rE.1 h1);subst c;simp [h1,d]
def lt (a b:BY):Bool:=Op.bytesLess a.toList b.toList
def Ew (a b:BY):Int:=Lib.compareBytes a.data.toList b.data.toList
theorem Xn (a b:BY):Ew a b<0↔lt a b=true:=by
 unfold Ew lt;rw [cmp_neg,ByteArray.toList_eq,ByteArray.toList_eq]
theorem Qu (a b:BY):Ew a b=0↔a=b:=by
 unfold Ew;rw [bH];exact ⟨fun h=>Df (Yk.1 h),fun h=>by rw [h]⟩
theorem a3P (a b:BY) (w:World):
 Calls prog 223 #[.string a,.string b] w fun e w'=>e=.returned (.int .i64 (Ew a b))/\w'=w:=by
 have hrun:∀ u:World,(callFunc 265 #[vS a,vS b]).run prog u=.ok (.value (vI (Ew a b))) u:=fun u=>by
  rw [run_callFunc_extern func265 Y2 Y2 Y2 (e:=Extern.BytealgCompare.compare) Y2,Lib.run_compareString];rfl
 go_enter func223,ntmps223;go_wp2;go_ret;exact ⟨rfl,rfl⟩
theorem c167 (a b:BY) (w:World):
 Calls prog 167 #[.string a,.string b] w fun e w'=>e=.returned (.int .i64 (Ew a b))/\w'=w:=by
 go_enter func167,ntmps167
 go_wp2_with fail
 refine (a3P a b _).mono ?_;rintro e w1 ⟨rfl,hw⟩;obtain rfl:=hw.symm;go_wp2;go_ret;exact ⟨rfl,rfl⟩
theorem c229 (x:F2) (b:BY) (w:World):
 Calls prog 229 #[.agg #[.string x.nm,.string x.tx],.string b] w fun e w'=>e=.returned (.int .i64 (Ew x.nm b))/\Bw w w':=by
 go_enter func229,ntmps229
 go_wp2_with fail
 refine (c167 x.nm b _).mono ?_;rintro e w1 ⟨rfl,hw⟩;obtain rfl:=hw.symm;go_wp2;go_ret;exact ⟨rfl,P6⟩
theorem Bq:∀ (a b c:List UInt8),Op.bytesLess a b=true->Op.bytesLess b c=true->Op.bytesLess a c=true
 | _,[],_,h,_=>by simp [Op.bytesLess] at h
 | _,_::_,[],_,h=>by simp [Op.bytesLess] at h
 | [],_::_,_::_,_,_=>by simp [Op.bytesLess]
 | x::a,y::b,z::c,h,k=>by
  have d:=Bq a b c;simp only [Op.bytesLess,ZH,V_,Ud,Ko] at h k ⊢;rcases h with h | ⟨rfl,h⟩
  · rcases k with k | ⟨rfl,k⟩
    · exact .inl (UInt8.lt_trans h k)
    exact .inl h
  rcases k with k | ⟨rfl,k⟩
  · exact .inl k
  exact .inr ⟨rfl,d h k⟩
theorem zo:∀ (a:List UInt8),Op.bytesLess a a=false
 | []=>by simp [Op.bytesLess]
 | x::a=>by simp [Op.bytesLess,zo a]
theorem Xf {a b c:BY} (h:lt a b=true) (k:lt b c=true):lt a c=true:=Bq _ _ _ h k
theorem Ic (a:BY):lt a a=false:=zo _
structure Place (fs:List F2) (t:BY) (p:Nat) (f:Bool):Prop where
 le:p<=fs.length
 less:∀ j,j<p->lt (fs.getD j I8).nm t=true
 more:∀ j,p<=j->j<fs.length->lt (fs.getD j I8).nm t=false
 here:f=true↔p<fs.length/\(fs.getD p I8).nm=t
def Asc (fs:List F2):Prop:=∀ i j,i<j->j<fs.length->lt (fs.getD i I8).nm (fs.getD j I8).nm=true
def Half (fs:List F2) (t:BY) (i j:Nat):Prop:=(∀ q,q<i->lt (fs.getD q I8).nm t=true)/\∀ q,j<=q->q<fs.length->lt (fs.getD q I8).nm t=false
theorem SV {fs:List F2} (hm:Asc fs) (a:Half fs t i j) (hl:h<fs.length) (hx:lt (fs.getD h I8).nm t=true):Half fs t (h+1) j:=by
 refine ⟨fun q hq=>?_,a.2⟩;rcases Q7 q h with h1 | h1
 · exact Xf (hm q h h1 hl) hx
 obtain rfl:q=h:=O0;exact hx
theorem rM {fs:List F2} (hm:Asc fs) (a:Half fs t i j) (hx:lt (fs.getD h I8).nm t=false):Half fs t i h:=by
 refine ⟨a.1,fun q hq hl=>?_⟩;rcases Q7 h q with h1 | h1
 · cases hc:lt (fs.getD q I8).nm t
   · rfl
   rw [Xf (hm h q h1 hl) hc] at hx;cases hx
 obtain rfl:q=h:=O0;exact hx
theorem c228 (a:OA) (I:Nat) (fs:List F2) (t:BY) (w:World) (hl:fs.length<=40) (C:G6 w a fs) (hm:Asc fs):
 Calls prog 228 #[.slice a fs.length I,.string t,.func (.func 229) #[] #[]] w fun e w'=>(∃ p f,e=.returned (.tuple #[.int .i64 (p:Nat),.bool f])/\Place fs t p f)/\Bw w w':=by
 obtain ⟨b,off,hc⟩:=Z9 C;have E:=U0 hc;have D:=U0 hm;clear hc C hm;go_enter func228,ntmps228
 go_wp2_with fail
 go_loopw [9,10] (fun s r wr=>∃ i j:Nat,i<=j/\j<=fs.length/\s=.int .i64 i/\r=.int .i64 j/\Below w.heap.size w wr/\Hid (Half fs t i j)) (fun s r _=>(RowKit.intOf r).toNat - (RowKit.intOf s).toNat)
 case atStart=>exact ⟨0,fs.length,J4 _,v_ _,rfl,rfl,Z4 _ _,⟨fun q h=>absurd h (J8 _),fun q h k=>O0⟩⟩
 obtain ⟨i,j,hij,B,rfl,rfl,d,g⟩:=hrel;by_cases hlt:i<j;rotate_left
 · obtain rfl:i=j:=O0;by_cases n:i<fs.length;rotate_left
   · have z:Hid (Place fs t i false):=⟨O0,g.out.1,g.out.2,U7⟩;have hd:decide ((i:Int)<(fs.length:Int))=false:=S9 O0;go_wp2
     all_goals go_ret2
     all_goals exact ⟨⟨i,false,rfl,z.out⟩,d⟩
   obtain ⟨ha,l,c⟩:=Cc E.out n;subst ha;have g0:=(d.cell (p:=⟨b,off+i*2,none⟩) l).trans (c i n).1;have g1:=(d.cell (p:=⟨b,off+i*2+1,none⟩) l).trans (c i n).2;have z:Hid (∀ f:Bool,(f=true↔(fs.getD i I8).nm=t)->Place fs t i f):=fun f hf=>⟨O0,g.out.1,g.out.2,hf.trans ⟨fun h=>⟨n,h⟩,fun h=>h.2⟩⟩;generalize fs.getD i I8=x at*;clear c
   go_wp2_with fail
   refine (c229 x t wr).mono ?_;rintro e F ⟨rfl,m⟩;have o:=X5 d m;go_wp2
   all_goals go_ret2
   all_goals exact ⟨⟨i,_,rfl,z.out _ (by rw [<- Qu];simp)⟩,o⟩
 rcases E.out with H | ⟨ha,l,c⟩
 · rw [H] at B;simp at B;omega
 subst ha;have v:(i+j) / 2<fs.length:=O0;have g0:=(d.cell (p:=⟨b,off+(i+j) / 2*2,none⟩) l).trans (c _ v).1;have g1:=(d.cell (p:=⟨b,off+(i+j) / 2*2+1,none⟩) l).trans (c _ v).2;have y:Hid (lt (fs.getD ((i+j) / 2) I8).nm t=true->Half fs t ((i+j) / 2+1) j):=fun hx=>SV D.out g.out v hx;have A:Hid (lt (fs.getD ((i+j) / 2) I8).nm t=false->Half fs t i ((i+j) / 2)):=fun hx=>rM D.out g.out hx;generalize fs.getD ((i+j) / 2) I8=x at*;clear c
 go_wp2_with fail
 refine (c229 x t wr).mono ?_;rintro e F ⟨rfl,m⟩;have o:=X5 d m;cases hx:lt x.nm t
 · have hc:¬ Ew x.nm t<0:=fun h=>by rw [(Xn _ _).1 h] at hx;cases hx
   have hc1:=S9 hc;have u:=U0 (A.out hx);clear hx m y A;go_wp2;go_roundw
   case rel=>exact ⟨i,(i+j) / 2,O0,O0,rfl,by go_num,o,u⟩
   case measure=>simp [RowKit.intOf];omega
 have hc:=(Xn _ _).2 hx;have u:=U0 (y.out hx);clear hx m y A;go_wp2;go_roundw
 case rel=>exact ⟨(i+j) / 2+1,j,O0,O0,by go_num,rfl,o,u⟩
 case measure=>simp [RowKit.intOf];omega
theorem c173 (a:OA) (b:Nat) (fs:List F2) (t:BY) (w:World) (hl:fs.length<=40) (d:G6 w a fs) (hm:Asc fs):
 Calls prog 173 #[.agg #[.slice a fs.length b],.string t] w fun e w'=>(∃ p f,e=.returned (.tuple #[.int .i64 (p:Nat),.bool f])/\Place fs t p f)/\Bw w w':=by
 have k:=U0 d;have j:=U0 hm;have g:Bw w (w.alloc (.cells #[vL a fs.length b] 40)):=P6;clear d hm;go_enter func173,ntmps173
 go_wp2_with fail
 refine (c228 a b fs t _ hl (J5 k.out g) j.out).mono ?_;rintro e w1 ⟨⟨p,f,rfl,c⟩,h⟩;have i:=U0 c;clear c;go_wp2;go_ret2;exact ⟨⟨p,f,rfl,i.out⟩,X5 g h⟩
theorem Uh {fs:List F2} (h:G_ fs):Asc fs:=by
 have b:∀ j,j+1<fs.length->lt (fs.getD j I8).nm (fs.getD (j+1) I8).nm=true:=fun j a=>by
  have:=h.2 (j+1) a;unfold Ce at this;simp only [V_,ZH,Ud] at this;rcases this.2 with h | h
  · omega
  exact h
 intro i j hij
 induction j with
 | zero=>omega
 | succ j ih=>
  intro a;rcases Q7 i j with h1 | h1
  · exact Xf (ih h1 O0) (b j a)
  obtain rfl:i=j:=O0;exact b i a
theorem c193 (a:OA) (m:Nat) (fs:List F2) (nm:BY) (w:World) (hl:fs.length<=1048576) (l:G6 w a fs):
 Calls prog 193 #[.agg #[.slice a fs.length m],.string nm] w fun e w'=>(∃ r:Int,e=.returned (.int .i64 r)/\((r=-1/\∀ i,i<fs.length->(fs.getD i I8).nm≠nm)\/∃ i:Nat,r=i/\i<fs.length/\(fs.getD i I8).nm=nm))/\Bw w w':=by
 obtain ⟨b,off,hc⟩:=Z9 l;have u:=U0 hc;have d:Bw w (w.alloc (.cells #[vL a fs.length m] 40)):=P6;clear hc l;go_enter func193,ntmps193
 go_wp2_with fail
 go_loop [5] (fun i=>∃ k:Nat,k<=fs.length/\i=.int .i64 k/\Hid (∀ j,j<k->(fs.getD j I8).nm≠nm)) (fun i=>fs.length - (RowKit.intOf i).toNat)
 case atStart=>exact ⟨0,J4 _,rfl,fun j h=>absurd h (J8 _)⟩
 obtain ⟨k,hk,rfl,f⟩:=hrel;by_cases c:k<fs.length;rotate_left
 · go_wp2;go_ret;exact ⟨⟨-1,rfl,.inl ⟨rfl,fun i hi=>f.out i O0⟩⟩,d⟩
 obtain ⟨ha,s,g⟩:=Cc u.out c;subst ha;have g0:=(d.cell (p:=⟨b,off+k*2,none⟩) s).trans (g k c).1;have o:Hid (∃ x,x=fs.getD k I8):=⟨_,rfl⟩;obtain ⟨x,hx⟩:=o.out;rw [<- hx] at g0;have n:=U0 hx;clear g hx o;cases hq:(x.nm.toList==nm.toList)
 · have q:Hid (∀ j,j<k+1->(fs.getD j I8).nm≠nm):=fun j hj=>by
    rcases Q7 j k with h | h
    · exact f.out j h
    obtain rfl:j=k:=O0;rw [<- n.out];intro e;rw [e] at hq;simp at hq
   go_wp2
   go_round
   case rel=>exact ⟨k+1,O0,by go_num,q⟩
   case measure=>simp [RowKit.intOf];omega
 have he:x.nm=nm:=by
  have:=Ko.1 hq;rw [ByteArray.toList_eq,ByteArray.toList_eq] at this;exact Df (Yk.1 this)
 have t:Hid (∃ i:Nat,(k:Int)=i/\i<fs.length/\(fs.getD i I8).nm=nm):=⟨k,rfl,c,by rw [<- n.out];exact he⟩;clear he;go_wp2;go_ret;exact ⟨⟨_,rfl,.inr t.out⟩,d⟩
end Go.Proofs.YtchjpjmcnhjbcaaGreatDoor.T
namespace Go.Proofs.YtchjpjmcnhjbcaaGreatDoor
open Proofs.Tryz Go.RowKit
theorem Fa (q:Nat) (h:q<1048577):IntKind.i64.wrap (q:Int)=(q:Int):=by
 have h1:(q:Int) % 2 ^ 64=q:=O0;simp only [IntKind.wrap,IntKind.bits,IntKind.signed,h1];rw [I7 U7]
theorem c194 (ta ra:OA) (tc rc:Nat) (s:St) (w:World) (hs:s.le 1048576) (hat:Ig w ta ra s):
 Calls prog 194 #[.agg #[.int .i64 s.wd,.slice ta s.ts.length tc,.slice ra s.rs.length rc]] w fun e w'=>Rb (Xg s) e/\Bw w w':=by
 have HS:=U0 hs;obtain ⟨d,f,hct⟩:=K_ hat.1;have HT:=U0 hct;obtain ⟨br,orr,hcr⟩:=Ie hat.2;have HRc:=U0 hcr;have n:=hs.1.1;have hmm:=hs.2.1;clear hs hat hct hcr;obtain ⟨l,z⟩:∃ l,l=(w.alloc (.cells #[vI s.wd,vL ta s.ts.length tc,vL ra s.rs.length rc] 43)):=⟨_,rfl⟩;have HA0:=U0 z;have L:Bw w l:=by rw [z];exact P6
 have hAs:l.heap.size=w.heap.size+1:=by rw [z];simp
 have b0:l.cell? ⟨w.heap.size,0,none⟩=some (vI s.wd):=by rw [z];simp [go_sem]
 have b1:l.cell? ⟨w.heap.size,1,none⟩=some (vL ta s.ts.length tc):=by rw [z];simp [go_sem]
 have b2:l.cell? ⟨w.heap.size,2,none⟩=some (vL ra s.rs.length rc):=by rw [z];simp [go_sem]
 clear z;by_cases hW:1<=s.wd/\s.wd<=8
 · have hd:decide (1<=s.wd/\s.wd<=8)=true:=by simpa using hW
   have HW:=U0 hW;by_cases a4l:300<s.ts.length
   · have a:Hid (¬ Xg s):=fun h=>by have:=h.2.1.1;omega
     go_enter func194,ntmps194
     go_wp2_with fail
     refine (lV _ _).mono ?_;rintro e w' ⟨rfl,rfl⟩;rw [hd];go_wp2;go_ret;exact ⟨G5 a.out,HA0.out▸L⟩
   by_cases a4o:150<s.rs.length
   · have a:Hid (¬ Xg s):=fun h=>by have:=h.2.2.1;omega
     go_enter func194,ntmps194
     go_wp2_with fail
     refine (lV _ _).mono ?_;rintro e w' ⟨rfl,rfl⟩;rw [hd];go_wp2;go_ret;exact ⟨G5 a.out,HA0.out▸L⟩
   go_enter func194,ntmps194
   go_wp2_with fail
   refine (lV _ _).mono ?_;rintro e w' ⟨rfl,hw'⟩;obtain rfl:=hw';rw [hd]
   go_wp2_with fail
   go_loopw [3] (fun i wr=>∃ (k:Nat),k<=s.ts.length/\i=.int .i64 k/\Hid (∀ j,j<k->StepT s.ts s.wd j)/\Below (w.heap.size+1) l wr) (fun i _=>s.ts.length - (RowKit.intOf i).toNat)
   case atStart=>exact ⟨0,J4 _,rfl,fun j h=>absurd h (J8 _),by rw [HA0.out];exact Z4 _ _⟩
   case round=>
    obtain ⟨k,hk,rfl,H,hx⟩:=hrel;have r:=L.trans (hx.mono O0);have P:w.heap.size+1<=wr.heap.size:=by have:=hx.size;omega
    have U:=(hx.cell (p:=⟨w.heap.size,0,none⟩) X4).trans b0;have a1:=(hx.cell (p:=⟨w.heap.size,1,none⟩) X4).trans b1;have a2:=(hx.cell (p:=⟨w.heap.size,2,none⟩) X4).trans b2;by_cases g:k<s.ts.length
    · obtain ⟨ha,J,I⟩:=Cc HT.out g;subst ha;have HCL:=U0 I;have g0:=(r.cell (p:=⟨d,f+k,none⟩) J).trans (I k g);have C:(s.ts.getD k ByteArray.empty).size<=1048700:=by have:=HS.out.1.2 k;omega
      have Y:Hid (StepT s.ts s.wd k↔(∃ c t,fD (s.ts.getD k ByteArray.empty).data.toList c t true)/\(k=0\/Op.bytesLess (Z5 (s.ts.getD (k - 1) ByteArray.empty) s.wd).toList (Z5 (s.ts.getD k ByteArray.empty) s.wd).toList=true)):=Iff.rfl;have X:Hid (∃ x,x=s.ts.getD k ByteArray.empty):=⟨_,rfl⟩;obtain ⟨x,D⟩:=X.out;rw [<- D] at g0 C Y;clear D X I
      go_wp2_with fail
      refine (a3v x _ C).mono ?_;rintro e w2 ⟨⟨c,t,ok,rfl,hr,_⟩,hb2⟩;have hfl:=fQ hr;have HFL:=U0 hfl;clear hr hfl;have E:Below (w.heap.size+1) l (w2.alloc (.cells #[vI c,vS (J3 t)] 103)):=(hx.trans (hb2.mono P)).alloc (G7 P hb2.size) _;have hA2:=L.trans (E.mono O0);clear hb2
      go_wp2_with fail
      generalize a5B:w2.alloc (.cells #[vI c,vS (J3 t)] 103)=V at*;clear a5B;cases ok
      · have a:Hid (¬ Xg s):=fun h=>by have:=HFL.out.2 ((Y.out.1 (h.2.1.2 k g)).1);cases this
        refine wp_region_held_drew (S:=(fun _=>True)) Y2 ?_ fun hHeld=>?_
        · ((try dsimp only);(first | done | trivial))
        refine Y0 0 ?_;refine Y0 1 ?_;refine Y0 2 ?_;refine E5 3 ?_;refine E5 4 ?_;refine E5 5 ?_;refine E5 6 ?_;refine E5 7 ?_;refine E5 8 ?_;refine E5 9 ?_;refine E5 10 ?_;refine E5 11 ?_;refine E5 12 ?_;refine E5 13 ?_;refine E5 14 ?_;refine E5 15 ?_;refine E5 16 ?_;refine E5 17 ?_;refine E5 18 ?_;refine E5 19 ?_;refine E5 20 ?_;refine E5 21 ?_;refine E5 22 ?_;refine E5 23 ?_;refine E5 24 ?_;refine Y0 25 ?_;refine wdn ?_;clear hHeld;go_wp2;go_ret;exact ⟨G5 a.out,hA2.drew⟩
      · cases k with
        | zero=>
         have v:Hid (∀ j,j<0+1->StepT s.ts s.wd j):=fun j hj=>by
          obtain rfl:j=0:=O0;exact Y.out.2 ⟨HFL.out.1 rfl,.inl rfl⟩
         refine wp_region_held_drew (S:=(fun _=>True)) Y2 ?_ fun hHeld=>?_
         · ((try dsimp only);(first | done | trivial))
         refine Y0 0 ?_;refine Y0 1 ?_;refine Y0 2 ?_;refine Y0 3 ?_;refine Y0 4 ?_;refine Y0 5 ?_;refine E5 6 ?_;refine E5 7 ?_;refine E5 8 ?_;refine E5 9 ?_;refine E5 10 ?_;refine E5 11 ?_;refine E5 12 ?_;refine E5 13 ?_;refine E5 14 ?_;refine E5 15 ?_;refine E5 16 ?_;refine E5 17 ?_;refine E5 18 ?_;refine E5 19 ?_;refine E5 20 ?_;refine E5 21 ?_;refine E5 22 ?_;refine E5 23 ?_;refine Y0 24 ?_;refine Y0 25 ?_;refine wdn ?_;clear hHeld;go_wp2;go_roundw
         case rel=>exact ⟨0+1,O0,by go_num,v,E.drew⟩
         case measure=>simp [RowKit.intOf];omega
        | succ q=>
         have hW2:w.heap.size+1<=V.heap.size:=by have:=E.size;omega
         have hz0:w.heap.size<V.heap.size:=O0;have hzb:d<V.heap.size:=O0;have k0:=(E.cell (p:=⟨w.heap.size,0,none⟩) X4).trans b0;have k1:=(E.cell (p:=⟨w.heap.size,1,none⟩) X4).trans b1;have k2:=(hA2.cell (p:=⟨d,f+q,none⟩) J).trans (HCL.out q O0);have k3':=(hA2.cell (p:=⟨d,f+(q+1),none⟩) J).trans (HCL.out (q+1) g);have hys:(s.ts.getD q ByteArray.empty).size<=1048700:=by have:=HS.out.1.2 q;omega
         have hge:s.ts.getD (q+1) ByteArray.empty=x:=by
          have e1:=(r.cell (p:=⟨d,f+(q+1),none⟩) J).trans (HCL.out (q+1) g);rw [g0] at e1;simpa using e1.symm
         have k3:V.cell? ⟨d,f+(q+1),none⟩=some (vS x):=by rw [k3',hge]
         have a4R:Hid (StepT s.ts s.wd (q+1)↔(∃ c t,fD x.data.toList c t true)/\(q+1=0\/Op.bytesLess (Z5 (s.ts.getD q ByteArray.empty) s.wd).toList (Z5 x s.wd).toList=true)):=Y.out;have W:Hid (∃ y,y=s.ts.getD q ByteArray.empty):=⟨_,rfl⟩;obtain ⟨y,B⟩:=W.out;rw [<- B] at k2 hys a4R;have F:q<s.ts.length:=O0;have hq0:0<=(q:Int)+1:=O0;have hq1:(q:Int)+1<(s.ts.length:Int):=O0;have hwq:=Fa q O0;have a6n:=Fa (q+1) O0;have hqq:((q+1:Nat):Int) - 1=(q:Int):=O0;clear B W k3' hge g0 Y U a1 a2;cases hy:Op.bytesLess (Z5 y s.wd).toList (Z5 x s.wd).toList
         all_goals
          refine wp_region_held_drew (S:=(fun u=>u.cell? ⟨w.heap.size,0,none⟩=some (vI s.wd)/\u.cell? ⟨w.heap.size,1,none⟩=some (vL (some ⟨d,f,none⟩) s.ts.length tc)/\u.cell? ⟨d,f+q,none⟩=some (vS y)/\u.cell? ⟨d,f+(q+1),none⟩=some (vS x))) Y2 ?_ fun hHeld=>?_
          · ((try dsimp only);go_keep)
          refine Y0 0 ?_;refine Y0 1 ?_;refine Y0 2 ?_;refine Y0 3 ?_;refine Y0 4 ?_;refine Y0 5 ?_;refine Y0 6 ?_;refine Y0 7 ?_;refine Y0 8 ?_;refine Y0 9 ?_;refine Y0 10 ?_;refine Y0 11 ?_;refine Y0 12 ?_;refine Y0 13 ?_;refine Y0 15 ?_;refine Y0 16 ?_;refine Y0 17 ?_;refine Y0 18 ?_;refine Y0 19 ?_;refine Y0 20 ?_;refine Y0 21 ?_;refine rq 14 fun K b=>?_;go_simp;refine (YA y s.wd _ hys).mono ?_;rintro e w3 ⟨rfl,hb3⟩;have HB3:Hid (Bw V w3):=(Z4 _ _).drew.trans hb3;have p30:=(HB3.out.cell (p:=⟨w.heap.size,0,none⟩) hz0).trans k0;have p31:=(HB3.out.cell (p:=⟨w.heap.size,1,none⟩) hz0).trans k1;have p32:=(HB3.out.cell (p:=⟨d,f+q,none⟩) hzb).trans k2;have p33:=(HB3.out.cell (p:=⟨d,f+(q+1),none⟩) hzb).trans k3
          go_wp2_with fail
          clear hHeld;refine zH b fun hHeld=>?_;clear b K;refine rq 22 fun K b=>?_;go_simp;refine (YA x s.wd _ C).mono ?_;rintro e w4 ⟨rfl,hb4⟩;have O:=U0 (X5 HB3.out hb4);have p40:=(O.out.cell (p:=⟨w.heap.size,0,none⟩) hz0).trans k0;have p41:=(O.out.cell (p:=⟨w.heap.size,1,none⟩) hz0).trans k1;have p42:=(O.out.cell (p:=⟨d,f+q,none⟩) hzb).trans k2;have p43:=(O.out.cell (p:=⟨d,f+(q+1),none⟩) hzb).trans k3
          go_wp2_with fail
          clear hHeld;refine zH b fun hHeld=>?_;clear b K;refine Y0 23 ?_;refine Y0 24 ?_;refine Y0 25 ?_;refine wdn ?_;clear hHeld
         · have a:Hid (¬ Xg s):=fun h=>by
            have:=(a4R.out.1 (h.2.1.2 (q+1) g)).2;rcases this with h1 | h1
            · omega
            · rw [hy] at h1;cases h1
           have hB4:=hA2.trans (O.out.mono O0);go_wp2;go_ret;exact ⟨G5 a.out,hB4⟩
         · have v:Hid (∀ j,j<q+1+1->StepT s.ts s.wd j):=fun j hj=>by
            rcases Q7 j (q+1) with h | h
            · exact H.out j h
            · obtain rfl:j=q+1:=O0;exact a4R.out.2 ⟨HFL.out.1 trivial,.inr hy⟩
           have hx4:=E.trans (O.out.mono hW2);go_wp2;go_roundw
           case rel=>exact ⟨q+1+1,O0,by go_num,v,hx4⟩
           case measure=>simp [RowKit.intOf];omega
    · have HTX:Hid (IK s.ts s.wd):=⟨O0,fun i hi=>H.out i O0⟩;clear H
      go_wp2_with fail
      clear U a1 a2 r P;go_loopw [6] (fun i wr=>∃ (k:Nat),k<=s.rs.length/\i=.int .i64 k/\Hid (∀ j,j<k->kG s.wd (s.rs.getD j f_))/\Below (w.heap.size+1) l wr) (fun i _=>s.rs.length - (RowKit.intOf i).toNat)
      case atStart=>exact ⟨0,J4 _,rfl,fun j h=>absurd h (J8 _),hx⟩
      case round=>
       clear hx;obtain ⟨k,hk,rfl,H,hx⟩:=hrel;obtain ⟨wq,hwq⟩:∃ wq,wq=wr:=⟨_,rfl⟩;subst hwq;have r:=L.trans (hx.mono O0);have P:w.heap.size+1<=wq.heap.size:=by have:=hx.size;omega
       have U:=(hx.cell (p:=⟨w.heap.size,0,none⟩) X4).trans b0;have a2:=(hx.cell (p:=⟨w.heap.size,2,none⟩) X4).trans b2;by_cases g:k<s.rs.length
       · obtain ⟨ha,J,I⟩:=Cc HRc.out g;subst ha;obtain ⟨ai,A,e0,e1,e2,e3⟩:=(I k g).below J r;have C:=HS.out.2.2 k;have X:Hid (∃ x,x=s.rs.getD k f_):=⟨_,rfl⟩;obtain ⟨x,D⟩:=X.out;rw [<- D] at e0 e1 e2 e3 C;have HX:=U0 D;have HGL:=U0 e3;obtain ⟨x1,x2,x3,x4⟩:=C;have HX3:=U0 x3;clear D X I e3 x3;have Z:Hid (¬ kG s.wd x->¬ Xg s):=fun n h=>n (HX.out▸h.2.2.2 k g);have hAq:Bw wq (wq.alloc (.cells #[vS x.key,vL ai x.gs.length A,vS x.out] 145)):=P6;have hBq:Bw w (wq.alloc (.cells #[vS x.key,vL ai x.gs.length A,vS x.out] 145)):=r.alloc r.size _;have a0':=past (by show w.heap.size<wq.heap.size;omega) U;by_cases h1:x.key.size<=321
         · by_cases h2:(x.out.size:Int)=s.wd
           · by_cases h3:x.gs.length<=15
             · have HH:Hid (x.key.size<=321/\(x.out.size:Int)=s.wd/\x.gs.length<=15):=⟨h1,h2,h3⟩
               go_wp2_with fail
               go_loopw [8] (fun i wr=>∃ (q:Nat),q<=x.gs.length/\i=.int .i64 q/\Hid (∀ j,j<q->iZ s.wd (x.gs.getD j Vg))/\Below (wq.heap.size+1) (wq.alloc (.cells #[.string x.key,.slice ai x.gs.length A,.string x.out] 145)) wr) (fun i _=>x.gs.length - (RowKit.intOf i).toNat)
               case atStart=>exact ⟨0,J4 _,rfl,fun j h=>absurd h (J8 _),Z4 _ _⟩
               case round=>
                obtain ⟨q,hq,rfl,hdg,R⟩:=hrel;have hBg:=hBq.trans (R.mono O0);have hqg:=hAq.trans (R.mono O0);have hzg:wq.heap.size+1<=wr.heap.size:=by have:=R.size;simpa using this
                have k0:=(hqg.cell (p:=⟨w.heap.size,0,none⟩) (by show w.heap.size<wq.heap.size;omega)).trans U;have k1:wr.cell? ⟨wq.heap.size,1,none⟩=some (vL ai x.gs.length A):=(R.cell (p:=⟨wq.heap.size,1,none⟩) X4).trans (by simp [go_sem]);by_cases F:q<x.gs.length
                · obtain ⟨o,m,hci⟩:=Ph (P8 HGL.out hqg);obtain ⟨hai,a6o,hgc⟩:=Cc hci F;subst hai;have g1:=(hgc q F).2.1;have g2:=(hgc q F).2.2;have a5C:=(HX3.out q).1;have W:Hid (∃ y,y=x.gs.getD q Vg):=⟨_,rfl⟩;obtain ⟨y,B⟩:=W.out;rw [<- B] at g1 g2 a5C;have HY:=U0 B;have hyl:y.tl.size<=1048700:=O0;clear B W hgc;cases n:Y5 y.tl.data.toList
                  · have a:Hid (¬ Xg s):=Z.out fun h=>by have:=(h.2 q F).1;rw [<- HY.out,n] at this;cases this
                    have N:=NJ y.tl;rw [n] at N
                    go_wp2_with fail
                    refine wp_region_held_drew (S:=(fun u=>u.cell? ⟨w.heap.size,0,none⟩=some (vI s.wd)/\u.cell? ⟨wq.heap.size,1,none⟩=some (vL (some ⟨o,m,none⟩) x.gs.length A)/\u.cell? ⟨o,m+q*3+1,none⟩=some (vS y.tl)/\u.cell? ⟨o,m+q*3+2,none⟩=some (vS y.ar))) Y2 ?_ fun hHeld=>?_
                    · ((try dsimp only);go_keep)
                    refine Y0 0 ?_;refine Y0 1 ?_;refine Y0 2 ?_;refine Y0 3 ?_;refine Y0 4 ?_;refine Y0 5 ?_;refine rq 6 fun K b=>?_;go_simp;refine (N _ hyl).mono ?_;rintro e wz ⟨rfl,Q⟩;obtain rfl:=Q
                    go_wp2_with fail
                    clear hHeld;refine zH b fun hHeld=>?_;clear b K;refine Y0 7 ?_;refine Y0 8 ?_;refine E5 9 ?_;refine E5 10 ?_;refine E5 11 ?_;refine E5 12 ?_;refine E5 13 ?_;refine E5 14 ?_;refine E5 15 ?_;refine E5 16 ?_;refine E5 17 ?_;refine E5 18 ?_;refine Y0 19 ?_;refine wdn ?_;clear hHeld;go_wp2;go_ret;exact ⟨G5 a.out,hBg.drew⟩
                  · have N:=NJ y.tl;rw [n] at N;by_cases hw:(y.ar.size:Int)=s.wd
                    · have v:Hid (∀ j,j<q+1->iZ s.wd (x.gs.getD j Vg)):=fun j hj=>by
                       rcases Q7 j q with h | h
                       · exact hdg.out j h
                       · obtain rfl:j=q:=O0;rw [<- HY.out];exact ⟨n,hw⟩
                      have hw':((y.ar.size:Int) !=s.wd)=false:=by simpa using hw
                      clear n
                      go_wp2_with fail
                      refine wp_region_held_drew (S:=(fun u=>u.cell? ⟨w.heap.size,0,none⟩=some (vI s.wd)/\u.cell? ⟨wq.heap.size,1,none⟩=some (vL (some ⟨o,m,none⟩) x.gs.length A)/\u.cell? ⟨o,m+q*3+1,none⟩=some (vS y.tl)/\u.cell? ⟨o,m+q*3+2,none⟩=some (vS y.ar))) Y2 ?_ fun hHeld=>?_
                      · ((try dsimp only);go_keep)
                      refine Y0 0 ?_;refine Y0 1 ?_;refine Y0 2 ?_;refine Y0 3 ?_;refine Y0 4 ?_;refine Y0 5 ?_;refine rq 6 fun K b=>?_;go_simp;refine (N _ hyl).mono ?_;rintro e wz ⟨rfl,Q⟩;obtain rfl:=Q
                      go_wp2_with fail
                      clear hHeld;refine zH b fun hHeld=>?_;clear b K;refine Y0 7 ?_;refine Y0 8 ?_;refine Y0 9 ?_;refine Y0 10 ?_;refine Y0 11 ?_;refine Y0 12 ?_;refine Y0 13 ?_;refine Y0 14 ?_;refine Y0 15 ?_;refine Y0 16 ?_;refine Y0 17 ?_;refine Y0 18 ?_;refine Y0 19 ?_;refine wdn ?_;clear hHeld;go_wp2;go_roundw
                      case rel=>exact ⟨q+1,O0,by go_num,v,R.drew⟩
                      case measure=>simp [RowKit.intOf];omega
                    · have a:=U0 (Z.out fun h=>hw (by have:=(h.2 q F).2;rw [<- HY.out] at this;exact this));have hw':((y.ar.size:Int) !=s.wd)=true:=by simpa using hw
                      have hw2:((y.ar.size:Int)==s.wd)=false:=by simpa using hw
                      clear n
                      go_wp2_with fail
                      refine wp_region_held_drew (S:=(fun u=>u.cell? ⟨w.heap.size,0,none⟩=some (vI s.wd)/\u.cell? ⟨wq.heap.size,1,none⟩=some (vL (some ⟨o,m,none⟩) x.gs.length A)/\u.cell? ⟨o,m+q*3+1,none⟩=some (vS y.tl)/\u.cell? ⟨o,m+q*3+2,none⟩=some (vS y.ar))) Y2 ?_ fun hHeld=>?_
                      · ((try dsimp only);go_keep)
                      refine Y0 0 ?_;refine Y0 1 ?_;refine Y0 2 ?_;refine Y0 3 ?_;refine Y0 4 ?_;refine Y0 5 ?_;refine rq 6 fun K b=>?_;go_simp;refine (N _ hyl).mono ?_;rintro e wz ⟨rfl,Q⟩;obtain rfl:=Q
                      go_wp2_with fail
                      clear hHeld;refine zH b fun hHeld=>?_;clear b K;refine Y0 7 ?_;refine Y0 8 ?_;refine Y0 9 ?_;refine Y0 10 ?_;refine Y0 11 ?_;refine Y0 12 ?_;refine Y0 13 ?_;refine Y0 14 ?_;refine Y0 15 ?_;refine Y0 16 ?_;refine Y0 17 ?_;refine Y0 18 ?_;refine Y0 19 ?_;refine wdn ?_;clear hHeld;go_wp2;go_ret;exact ⟨G5 a.out,hBg.drew⟩
                · have v:Hid (∀ j,j<k+1->kG s.wd (s.rs.getD j f_)):=fun j hj=>by
                   rcases Q7 j k with h | h
                   · exact H.out j h
                   · obtain rfl:j=k:=O0;rw [<- HX.out];exact ⟨HH.out,fun i hi=>hdg.out i O0⟩
                  have hxg:=hx.trans (hqg.mono P);go_wp2;go_roundw
                  case rel=>exact ⟨k+1,O0,by go_num,v,hxg⟩
                  case measure=>simp [RowKit.intOf];omega
             · have a:=U0 (Z.out fun h=>h3 h.1.2.2);have h3':15<x.gs.length:=O0;go_wp2;go_ret;exact ⟨G5 a.out,hBq⟩
           · have a:=U0 (Z.out fun h=>h2 h.1.2.1);have h2':((x.out.size:Int) !=s.wd)=true:=by simpa using h2
             have a6p:((x.out.size:Int)==s.wd)=false:=by simpa using h2
             go_wp2;go_ret;exact ⟨G5 a.out,hBq⟩
         · have a:=U0 (Z.out fun h=>h1 h.1.1);go_wp2;go_ret;exact ⟨G5 a.out,hBq⟩
       · have a:Hid (Xg s):=⟨HW.out,HTX.out,O0,fun i hi=>H.out i O0⟩;go_wp2;go_ret;exact ⟨u_ a.out,r⟩
 · have hd:decide (1<=s.wd/\s.wd<=8)=false:=by simpa using hW
   have a:Hid (¬ Xg s):=fun h=>hW h.1;go_enter func194,ntmps194
   go_wp2_with fail
   refine (lV _ _).mono ?_;rintro e w' ⟨rfl,rfl⟩;rw [hd];go_wp2;go_ret;exact ⟨G5 a.out,HA0.out▸L⟩
def zs (z:List Value) (m:Nat):List Value:=(List.replicate m z).flatten
section
variable {z ys vs:List Value} {k n j b o:Nat} {w w':World} {cs:List Value}
theorem nI:(zs z n).length=n*z.length:=by
 unfold zs;simp
theorem VD:zs z (n+1)=z++zs z n:=by
 unfold zs;simp [List.replicate_succ]
theorem yP:∀ (n j:Nat),j<n*z.length->(zs z n)[j]?=z[j % z.length]?
 | 0,j,h=>by simp at h
 | n+1,j,h=>by
  rw [VD];by_cases a:j<z.length
  · rw [S_ a,Nat.mod_eq_of_lt a]
  rw [Ue O0,yP n (j - z.length) (by rw [Vj] at h;omega),<- Nat.mod_eq_sub_mod O0]
theorem tK (z:List Value) (n:Nat):madeCells z.toArray (n*z.length)=(zs z n).toArray:=by
 apply Array.ext
 · simp [size_madeCells,nI]
 intro i h1 h2;have a:i<n*z.length:=by simpa [size_madeCells] using h1
 have b:i % z.length<z.length:=Nat.mod_lt _ (by rcases su z.length with h|h;(rw [h] at a;omega);exact h);have e:=yP (z:=z) n i a;have l:i<(zs z n).length:=by rw [nI];exact a
 rw [Z8 l,Z8 b] at e;injection e with e;simp [madeCells,b,e]
theorem uO (a:ys.length=k*z.length) (hv:vs.length=z.length) (hk:k<n):Um (ys++zs z (n - k)) (k*z.length) vs=(ys++vs)++zs z (n - (k+1)):=by
 unfold Um;rw [show n - k=(n - (k+1))+1 by omega,VD,<- a,hv];simp [List.drop_append]
theorem kR (a:ys.length=k*z.length) (hv:vs.length=z.length) (hk:k<n):k*z.length+vs.length<=(ys++zs z (n - k)).length:=by
 rw [D9,nI,a,hv,show n - k=(n - (k+1))+1 by omega,Vj];omega
def Bc (w:World) (b o:Nat) (cs:List Value):Prop:=∀ q v,cs[q]?=some v->w.cell? ⟨b,o+q,none⟩=some v
theorem Bc.below (h:Bc w b o cs) (hl:b<w.heap.size) (a:Bw w w'):Bc w' b o cs:=fun q v e=>(a.cell (by exact hl)).trans (h q v e)
theorem uX {t:TypeId} (h:Cl w b t ys) (a:∀ q v,cs[q]?=some v->ys[o+q]?=some v):Bc w b o cs:=fun q v e=>(h.cell _).trans (a q v e)
end
def Jz {α:Type} (w:World) (a:OA) (is:List α) (d:α) (n:Nat) (P:World->Nat->Nat->α->Prop):Prop:=is=[]\/∃ b off,a=some ⟨b,off,none⟩/\b<w.heap.size/\∀ i,i<is.length->P w b (off+i*n) (is.getD i d)
section
variable {α:Type} {w w':World} {a:OA} {is:List α} {d:α} {n:Nat} {P:World->Nat->Nat->α->Prop}
theorem N_ (h:Jz w a is d n P):∃ b off,(is=[]\/(a=some ⟨b,off,none⟩/\b<w.heap.size/\∀ i,i<is.length->P w b (off+i*n) (is.getD i d))):=by
 rcases h with h | ⟨b,off,h⟩
 · exact ⟨0,0,.inl h⟩
 · exact ⟨b,off,.inr h⟩
theorem ZF (hP:∀ b o x,P w b o x->b<w.heap.size->P w' b o x) (h:Jz w a is d n P) (e:Bw w w'):Jz w' a is d n P:=by
 rcases h with h | ⟨b,off,h1,h2,f⟩
 · exact .inl h
 · exact .inr ⟨b,off,h1,O9 h2 e.size,fun i c=>hP _ _ _ (f i c) h2⟩
theorem ZP {R:α->Prop} (hd:R d) (h:∀ i,i<is.length->R (is.getD i d)) (i:Nat):R (is.getD i d):=by
 rcases Q7 i is.length with a | a
 · exact h i a
 · rw [show is.getD i d=d from by simp [List.getD,Yb a]];exact hd
theorem bJ {f:α->List Value} {k:Nat} (a:k<is.length):(is.take (k+1)).flatMap f=(is.take k).flatMap f++f (is.getD k d):=by
 rw [Sr,Ns,Z8 a];simp [List.getD,Z8 a]
theorem jk {f:α->List Value} {m:Nat} (hf:∀ x,(f x).length=m) (l:List α):(l.flatMap f).length=l.length*m:=by
 induction l with
 | nil=>simp
 | cons x l ih=>rw [vg,D9,ih,hf,o_,Vj,Nat.add_comm]
theorem Xt {f:α->List Value} {m:Nat} (hf:∀ x,(f x).length=m):∀ (l:List α) (i:Nat),i<l.length->∀ q v,(f (l.getD i d))[q]?=some v->(l.flatMap f)[i*m+q]?=some v
 | x::l,0,h,q,v,e=>by
  have a:q<(f x).length:=(Tm.1 e).1;rw [vg,Fq,L8,S_ a];exact e
 | x::l,i+1,h,q,v,e=>by
  rw [vg,Ue (by rw [hf,Vj];omega),hf,show (i+1)*m+q - m=i*m+q by rw [Vj];omega];exact Xt hf l i (by simpa using h) q v e
end
structure Jb where
 nm:BY
 wk:Int
 un:Int
def Jc:Jb:=⟨⟨#[]⟩,0,0⟩
def VT (x:Jb):List Value:=[.string x.nm,.int .i64 x.wk,.int .i64 x.un]
def Bl (w:World) (a:OA) (is:List Jb):Prop:=Jz w a is Jc 3 fun w b o x=>Bc w b o (VT x)
theorem Vk {w w':World} {a:OA} {is:List Jb} (h:Bl w a is) (c:Bw w w'):Bl w' a is:=ZF (fun b o x h hl=>h.below hl c) h c
end Go.Proofs.YtchjpjmcnhjbcaaGreatDoor
namespace Go.Proofs.YtchjpjmcnhjbcaaGreatDoor
open Proofs.Tryz Go.RowKit
def Kp (b:Nat) (w:World) (P:World->Prop):Prop:=∀ u:World,w.heap.size<=u.heap.size->(∀ q,b<=q->q<w.heap.size->u.heap[q]?=w.heap[q]?)->P u
section
variable {b b' B:Nat} {w u:World} {P Q:World->Prop} {t:TypeId} {xs:List Value}
theorem Kp.now (h:Kp b w P):P w:=h w H8 (fun _ _ _=>rfl)
theorem Kp.next (h:Kp b w P) (c:w.heap.size<=u.heap.size) (d:∀ q,b<=q->q<w.heap.size->u.heap[q]?=w.heap[q]?):Kp b u P:=fun z h1 h2=>h z (G7 c h1) (fun q a hl=>(h2 q a O0).trans (d q a hl))
theorem Kp.below (h:Kp b w P) (a:Bw w u):Kp b u P:=h.next a.size (fun q _ hl=>a.block q hl)
theorem Kp.on (h:Kp b w P) (ho:uy B w u) (hB:B<b):Kp b u P:=h.next (qj ho.size.symm) (fun q hq _=>ho.block q O0)
theorem Kp.low (h:Kp b w P) (hb:b'<=b):Kp b' w P:=fun z h1 h2=>h z h1 (fun q hq=>h2 q O0)
theorem Kp.imp (h:Kp b w P) (a:∀ u,P u->Q u):Kp b w Q:=fun z h1 h2=>a _ (h z h1 h2)
theorem WX (h:Cl w B t xs) (a:b<=B):Kp b w fun u=>Cl u B t xs:=fun z _ h2=>(h2 B a h.lt).trans h
end
def qw (A:Nat) (u:World) (a:OA) (t:TypeId) (m:Nat):Prop:=∃ g xs,a=some ⟨g,0,none⟩/\A<=g/\Cl u g t xs/\m<=xs.length
theorem qw.mono {A A' m:Nat} {u:World} {a:OA} {t:TypeId} (h:qw A u a t m) (h1:A'<=A):qw A' u a t m:=by
 obtain ⟨g,xs,h1,h2,b⟩:=h;exact ⟨g,xs,h1,O0,b⟩
def Aq {β:Type} (b:Nat) (w:World) (LS:World->OA->List β->Prop) (t:TypeId) (m:Nat) (ls:List β) (v:Value):Prop:=∃ a c,v=.slice a ls.length c/\ls.length<=c/\Kp b w (fun u=>LS u a ls/\qw b u a t (ls.length*m))
section
variable {β:Type} {b b' B m:Nat} {t:TypeId} {w u:World} {LS:World->OA->List β->Prop} {ls:List β} {v:Value}
theorem Aq.below (h:Aq b w LS t m ls v) (d:Bw w u):Aq b u LS t m ls v:=by
 obtain ⟨a,c,e,hc,h⟩:=h;exact ⟨a,c,e,hc,h.below d⟩
theorem Aq.on (h:Aq b w LS t m ls v) (ho:uy B w u) (hB:B<b):Aq b u LS t m ls v:=by
 obtain ⟨a,c,e,hc,h⟩:=h;exact ⟨a,c,e,hc,h.on ho hB⟩
theorem Aq.low (h:Aq b w LS t m ls v) (d:b'<=b):Aq b' w LS t m ls v:=by
 obtain ⟨a,c,e,hc,h⟩:=h;exact ⟨a,c,e,hc,(h.low d).imp fun u k=>⟨k.1,k.2.mono d⟩⟩
theorem Aq.one (h:Aq b w LS t m ls v):v.oneCell'=true:=by
 obtain ⟨a,c,rfl,_,h⟩:=h;rfl
end
structure Rn where
 nm:BY
 md:Int
 wt:BY
 ls:List L4
 cd:Int
 tx:BY
def X_:Rn:=⟨⟨#[]⟩,0,⟨#[]⟩,[],0,⟨#[]⟩⟩
def Nz (p:Rn×Value):List Value:=[.string p.1.nm,.int .i64 p.1.md,.string p.1.wt,p.2,.int .i64 p.1.cd,.string p.1.tx]
def PU (w:World) (b o:Nat) (x:Rn):Prop:=∃ ai ci,Bc w b o (Nz (x,.slice ai x.ls.length ci))/\o9 w ai x.ls
def Aj (w:World) (a:OA) (is:List Rn):Prop:=Jz w a is X_ 6 PU
theorem PU.below {w w':World} {b o:Nat} {x:Rn} (h:PU w b o x) (hl:b<w.heap.size) (d:Bw w w'):PU w' b o x:=by
 obtain ⟨a,c,h1,h2⟩:=h;exact ⟨a,c,h1.below hl d,l7 h2 d⟩
theorem Le {w w':World} {a:OA} {is:List Rn} (h:Aj w a is) (c:Bw w w'):Aj w' a is:=ZF (fun b o x h hl=>h.below hl c) h c
def rY (p:R3×Value):List Value:=[.string p.1.key,p.2,.string p.1.out]
def JY (x:G3):List Value:=[.bool x.nm,.string x.tl,.string x.ar]
def aZ (x:L4):List Value:=[.bool x.has,.string x.nm,.int .i64 x.cd,.string x.tx]
section
variable {α:Type} {w:World} {B n:Nat} {t:TypeId} {ps:List (α×Value)} {f:α×Value->List Value} {r:List Value} {d:α}
theorem OU (hf:∀ x,(f x).length=n) (h:Cl w B t (ps.flatMap f++r)) {i:Nat} (a:i<ps.length):∃ v,((ps.map Prod.fst).getD i d,v)∈ps/\Bc w B (0+i*n) (f ((ps.map Prod.fst).getD i d,v)):=by
 refine ⟨(ps[i]).2,?_,?_⟩
 · rw [show (ps.map Prod.fst).getD i d=(ps[i]).1 from by simp [List.getD,a]];exact Bj a
 rw [show (ps.map Prod.fst).getD i d=(ps[i]).1 from by simp [List.getD,a]];refine uX h fun q v e=>?_;have hq:q<n:=by have:=(Tm.1 e).1;rwa [hf] at this
 have hl:=jk (m:=n) hf ps;have:i*n+n<=ps.length*n:=by rw [<- Vj];exact UI _ a
 rw [L8,S_ O0];exact Xt (d:=(d,undef)) hf ps i a q v (by rw [show ps.getD i (d,undef)=ps[i] from by simp [List.getD,a]];exact e)
end
end Go.Proofs.YtchjpjmcnhjbcaaGreatDoor
namespace Go.Proofs.YtchjpjmcnhjbcaaGreatDoor
open Proofs.Tryz Go.RowKit
/-- A row of one's own: a block between A and B, whole cells. -/
def Ow (A B:Nat) (u:World) (a:OA) (t:TypeId) (m:Nat):Prop:=∃ g xs,a=some ⟨g,0,none⟩/\A<=g/\g<B/\Cl u g t xs/\m<=xs.length
/-- What marks change. -/
structure Md (A B:Nat) (S:List TypeId) (w w':World):Prop where
 os:w'.os=w.os
 tape:w'.tape=w.tape
 output:w'.output=w.output
 size:w.heap.size<=w'.heap.size
 block:∀ k,k<w.heap.size->k<A\/B<=k->w'.heap[k]?=w.heap[k]?
 sh:∀ k t xs,Cl w k t xs->∃ ys,ys.length=xs.length/\Cl w' k t ys
 ty:∀ k t xs,Cl w k t xs->t∉S->w'.heap[k]?=w.heap[k]?
section
variable {A B A' B' N m g j:Nat} {w w' w'':World} {a:OA} {t:TypeId} {xs:List Value} {v:Value} {S S':List TypeId}
theorem Md.refl:Md A B S w w:=⟨rfl,rfl,rfl,v_ _,fun _ _ _=>rfl,fun k t xs h=>⟨xs,rfl,h⟩,fun _ _ _ _ _=>rfl⟩
theorem Md.tr (h:Md A B S w w') (k:Md A B S' w' w''):Md A B (S++S') w w'':=⟨k.os.trans h.os,k.tape.trans h.tape,k.output.trans h.output,G7 h.size k.size,fun q a b=>(k.block q (O9 a h.size) b).trans (h.block q a b),fun q t xs c=>by
 obtain ⟨ys,h1,h2⟩:=h.sh q t xs c;obtain ⟨zs,f,d⟩:=k.sh q t ys h2;exact ⟨zs,f.trans h1,d⟩,fun q t xs c ht=>by
 have e:=h.ty q t xs c (fun h=>ht (QI _ h));exact (k.ty q t xs (e.trans c) (fun h=>ht (List.mem_append_right _ h))).trans e⟩
theorem Md.mono (h:Md A B S w w') (h1:A'<=A) (h2:B<=B') (b:∀ t∈S,t∈S'):Md A' B' S' w w':=⟨h.os,h.tape,h.output,h.size,fun k a hn=>h.block k a O0,h.sh,fun k t xs c ht=>h.ty k t xs c (fun h=>ht (b _ h))⟩
theorem Md.trans (h:Md A B S w w') (k:Md A B S w' w''):Md A B S w w'':=(h.tr k).mono H8 H8 (fun t h=>by simpa using h)
theorem Md.of (h:Bw w w'):Md A B S w w':=⟨h.os,h.tape,h.output,h.size,fun k a _=>h.block k a,fun k t xs c=>⟨xs,rfl,c.below h c.lt⟩,fun k t xs c _=>h.block k c.lt⟩
theorem Md.below (h:Md A B S w w') (h1:N<=A) (h2:N<=w.heap.size):Below N w w':=⟨h.os,h.tape,h.output,h.size,fun k hk=>h.block k O0 O0⟩
theorem Md.on {ys:List Value} (h:Md A B S w w') (h1:A<=g) (h2:g<B) (ht:t∈S) (o:uy g w' w'') (c:Cl w' g t xs) (d:Cl w'' g t ys) (hl:ys.length=xs.length:=by simp):Md A B S w w'':=
 have one:∀ {a zs},Cl w' g a zs->a=t/\zs=xs:=fun c2=>by
  have:=c.symm.trans c2;injection this with e;injection e with e1 e2;exact ⟨e2.symm,(List.toArray_inj e1).symm⟩
 h.trans ⟨o.os,o.tape,o.output,qj o.size.symm,fun k _ b=>o.block k O0,fun k a zs c2=>by
  by_cases e:k=g
  · subst e;obtain ⟨rfl,rfl⟩:=one c2;exact ⟨ys,hl,d⟩
  exact ⟨zs,rfl,c2.on o e⟩,fun k a zs c2 b=>o.block k (fun e=>by
  subst e;exact b ((one c2).1▸ht))⟩
theorem Md.set (h:Md A B S w w') (h1:A<=g) (h2:g<B) (ht:t∈S) (hc:∃ xs,Cl w' g t xs) (j:Nat) (v:Value):Md A B S w (w'.setCell ⟨g,j,none⟩ v):=by
 obtain ⟨xs,c⟩:=hc;exact h.on h1 h2 ht (Ve w' g j v) c (c.set j v)
theorem Ow.md (h:Ow A' B' w a t m) (k:Md A B S w w'):Ow A' B' w' a t m:=by
 obtain ⟨g,xs,h1,h2,d,c,h5⟩:=h;obtain ⟨ys,h6,b⟩:=k.sh g t xs c;exact ⟨g,ys,h1,h2,d,b,by omega⟩
theorem Ow.mono (h:Ow A B w a t m) (h1:A'<=A) (h2:B<=B'):Ow A' B' w a t m:=by
 obtain ⟨g,xs,h1,h2,h3,c,b⟩:=h;exact ⟨g,xs,h1,O0,O0,c,b⟩
end
section
variable {A B A' B' N m g j n L c p:Nat} {w w' w'':World} {a:OA} {t ti:TypeId} {xs:List Value} {v:Value} {S:List TypeId}
/-- The row at block g, with rows of one's own within its elements. -/
def Ot (B:Nat) (u:World) (g:Nat) (t:TypeId) (L n m j:Nat) (ti:TypeId) (c:Nat):Prop:=(∃ xs,Cl u g t xs/\L<=xs.length)/\∀ i,i<n->∃ ai ni ci,u.cell? ⟨g,i*m+j,none⟩=some (.slice ai ni ci)/\ni<=1048576/\Ow (g+1) B u ai ti (ni*c)
theorem Ot.cell (h:Ot B w g t L n m j ti c) (hp:p<L):∃ v,w.cell? ⟨g,p,none⟩=some v:=by
 obtain ⟨⟨xs,h1,h2⟩,_⟩:=h;exact ⟨xs[p],by rw [h1.cell,Z8 O0]⟩
theorem Ot.opn (h:Ot B w g t L n m j ti c) (p:Nat):w.frozen? ⟨g,p,none⟩=false:=by
 obtain ⟨⟨xs,h1,h2⟩,_⟩:=h;exact h1.opn p
theorem Ot.set (h:Ot B w g t L n m j ti c) (v:Value) (u:∀ i,i<n->p≠i*m+j):Ot B (w.setCell ⟨g,p,none⟩ v) g t L n m j ti c:=by
 have o:=Ve w g p v;obtain ⟨⟨xs,h1,h2⟩,x⟩:=h;refine ⟨⟨_,h1.set p v,by simpa using h2⟩,fun i a=>?_⟩;obtain ⟨z,b,y,s,r,q,ys,l,k,f,e,d⟩:=x i a;refine ⟨z,b,y,?_,r,q,ys,l,k,f,e.on o O0,d⟩;rw [(h1.set p v).cell,jD (u i a),<- h1.cell];exact s
theorem Ot.md (h:Ot B w g t L n m j ti c) (k:Md A' B' S w w') (a:w'.heap[g]?=w.heap[g]?):Ot B w' g t L n m j ti c:=by
 obtain ⟨⟨xs,h1,h2⟩,o⟩:=h;refine ⟨⟨xs,a.trans h1,h2⟩,fun i l=>?_⟩;obtain ⟨q,b,p,f,e,d⟩:=o i l;exact ⟨q,b,p,by rw [show w'.cell? (aA g (i*m+j))=w.cell? (aA g (i*m+j)) by simp only [World.cell?,a]];exact f,e,d.md k⟩
theorem Ot.lt (h:Ot B w g t L n m j ti c):g<w.heap.size:=by
 obtain ⟨⟨xs,h1,h2⟩,_⟩:=h;exact h1.lt
theorem Ot.in_ (h:Ot B w g t L n m j ti c) (k:Md (g+1) B' S w w'):Ot B w' g t L n m j ti c:=h.md k (k.block g h.lt O0)
theorem Ot.call (h:Ot B w g t L n m j ti c) (k:Bw w w'):Ot B w' g t L n m j ti c:=h.md (Md.of (A:=0) (B:=0) (S:=[]) k) (k.block g h.lt)
theorem Ow.nst (h:Ow A B w a t L):∃ g,a=some ⟨g,0,none⟩/\A<=g/\g<B/\Ot B w g t L 0 0 0 0 0:=by
 obtain ⟨g,xs,h1,h2,e,d,c⟩:=h;exact ⟨g,h1,h2,e,⟨xs,d,c⟩,fun i b=>absurd b (J8 _)⟩
end
theorem yY (k:Nat):∀ n:Int,0<=n->n<10^(k+1)->(dec n).length<=k+1:=by
 induction k with
 | zero=>exact fun n h0 h=>by rw [dec_lt n (by simpa using h)];simp
 | succ k ih=>
  intro n h0 h;by_cases a:n<10
  · rw [dec_lt n a];simp
  rw [Tj n O0,D9];have:=ih (n/10) O0 (Int.ediv_lt_of_lt_mul (by decide) (by rw [<- Int.pow_succ];exact h));simpa using this
theorem c86 (K:Int) (w:World) (h1:1<=K) (h2:K<=100000000000000):
 Calls prog 86 #[.int .i64 K] w fun e w'=>e=.returned (.string (J3 (109::dec K)))/\Bw w w':=by
 have hcv:=xK;have hcd:=uP;have hz:∀ y,(strOfNums [y]).size=1:=fun y=>strOfNums_size [y];have hdl:=yY 14 K O0 (by have:(10:Int)^(14+1)=1000000000000000:=rfl;omega);go_enter func86,ntmps86
 go_wp2_with fail
 go_loopw [0,3] (fun k o wr=>∃ (m:Int) (l:List UInt8),0<=m/\m<=100000000000000/\k=.int .i64 m/\o=.string (J3 l)/\Hid (dec K=if m=0 then l else dec m++l)/\Below w.heap.size w wr) (fun k _ _=>(RowKit.intOf k).toNat)
 case atStart=>exact ⟨K,[],O0,h2,rfl,rfl,by rw [I7 O0];simp [Hid],Z4 _ _⟩
 case round=>
  obtain ⟨m,l,hm0,hm1,rfl,rfl,hl,b⟩:=hrel;by_cases hlt:0<m
  · have c:(J3 l).size<=100000001:=by
     have:=hl.out;rw [I7 O0] at this;have:=U6 List.length this;rw [D9] at this;rw [I5];omega
    have a:Hid (dec K=if m/10=0 then UInt8.ofNat (48+m%10).toNat::l else dec (m/10)++(UInt8.ofNat (48+m%10).toNat::l)):=by
     have h:=hl.out;rw [I7 O0] at h;by_cases d:m<10
     · rw [dec_lt m d] at h;rw [X7 O0,show m%10=m by omega];exact h
     rw [Tj m O0] at h;rw [I7 O0];exact h.trans X4
    go_wp2;go_roundw
    case rel=>exact ⟨m/10,_,O0,O0,rfl,by rw [kQ],a,b.alloc b.size _⟩
    case measure=>simp [RowKit.intOf];omega
  obtain rfl:m=0:=O0;have a:Hid (dec K=l):=by have h:=hl.out;rwa [X7 rfl] at h
  have c:(J3 l).size<=100000001:=by rw [I5,<- a.out];omega
  go_wp2;go_ret;exact ⟨Qj (by rw [a.out];simp only [qW,Vb];rfl),b⟩
section
variable {P:Program} {ops:Array Oper} {Q:Exit->Act->World->Prop}
theorem Pg {rest:List Oper} {o:Oper} {a:Act} {w d:World} {A B g p L n m j c:Nat} {t ti:TypeId} {S:List TypeId} (l:o.guard=none) (ty:TypeId) (x y:Operand) (ho:o.op=.store ty x y) (hx:a.eval x=.pointer (some ⟨g,p,none⟩)) (hv:(a.eval y).oneCell'=true) (k:(P.info? ty).map (·.size)=some 1) (b:Ot B w g t L n m j ti c) (q:Md A B S d w) (hA:A<=g/\g<B/\t∈S) (e:p<L) (f:∀ i,i<n->p≠i*m+j)
 (r:∀ w',Hid (Ot B w' g t L n m j ti c)->Hid (Md A B S d w')->wpList P ops Q rest (a.put o.dst undef) w'):wpList P ops Q (o::rest) a w:=
 Qz l (Yq ty x y ho hx hv (b.cell e) (b.opn p) k) (r _ (b.set _ f) (q.set hA.1 hA.2.1 hA.2.2 (b.1.imp fun _ h=>h.1) _ _))
end
theorem Nw (K:Int) (w:World) (h1:1<=K) (h2:K<=100000000000000):
 Calls prog 86 #[.int .i64 K] w fun e w'=>(∃ s,e=.returned (.string s))/\Bw w w':=(c86 K w h1 h2).mono fun e w' h=>⟨⟨_,h.1⟩,h.2⟩
