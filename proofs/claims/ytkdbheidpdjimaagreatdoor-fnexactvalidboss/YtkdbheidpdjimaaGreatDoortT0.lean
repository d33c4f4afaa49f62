import Derived.Shelf.Strings.Split
import Derived.Shelf.Small.Strs
import Derived.Test.YtkdbheidpdjimaaGreatDooreJ7
import Derived.Lib.Bytealg
set_option maxRecDepth 100000
set_option linter.unusedVariables false
set_option maxHeartbeats 8000000
namespace Go.Proofs.YtkdbheidpdjimaaGreatDoor
open Proofs.Tryz Go.RowKit
end Go.Proofs.YtkdbheidpdjimaaGreatDoor
namespace Go.Proofs
open Go.Shelf
def Tryz.nH:Go.Shelf.Ren:=⟨fun | 137=>251 | 217=>260 | 266=>289 | n => n, fun | 9=>9 | 5=>5 | 3=>3 | n => n, fun | n=>n⟩
theorem Tryz.lays137:Go.Proofs.Lays.n137 prog Tryz.nH:={
 mixed:=J3
 f137:=func251.trans (P5 some J3)
 f217:=func260.trans (P5 some J3)
 f266:=func289.trans (P5 some J3)
 t3:=underlying3
 a3:=Tryz.isAgg3
 z3:=Tryz.sizeOf3
 v3:=Tryz.zeroValue3
 t5:=underlying5
 a5:=Tryz.isAgg5
 z5:=Tryz.sizeOf5
 v5:=Tryz.zeroValue5
 t9:=underlying9
 a9:=Tryz.isAgg9
 z9:=Tryz.sizeOf9
 v9:=Tryz.zeroValue9 }
theorem Tryz.strings_IndexByte (s:BY) (c:Int) (w:World):
 Calls prog 251 #[.string s,.int .u8 c] w fun e w'=>e=.returned (.int .i64 (Lib.indexByte s.data.toList c.toNat.toUInt8))/\w'=w:=Any.strings_IndexByte Tryz.lays137 s c w
def Tryz.lays147_ren:Go.Shelf.Ren:=⟨fun | 147=>239 | 221=>214 | 268=>248 | 138=>192 | 143=>238 | 195=>236 | 197=>264 | 218=>237 | 219=>246 | 260=>291 | 217=>260 | 225=>261 | 224=>262 | 267=>263 | 266=>289 | 314=>290 | n => n, fun | 9=>9 | 3=>3 | 31=>22 | 4=>4 | 0=>0 | 105=>370 | 21=>21 | 5=>5 | 46=>290 | 119=>401 | 139=>404 | 138=>403 | 146=>338 | 51=>337 | n => n, fun | 1=>5 | 3=>9 | 4=>10 | n=>n⟩
theorem Tryz.lays147:Go.Proofs.Lays.n147 prog Tryz.lays147_ren:={
 mixed:=J3
 f138:=func192.trans (P5 some J3)
 f143:=func238.trans (P5 some J3)
 f147:=func239.trans (P5 some J3)
 f195:=func236.trans (P5 some J3)
 f197:=func264.trans (P5 some J3)
 f217:=func260.trans (P5 some J3)
 f218:=func237.trans (P5 some J3)
 f219:=func246.trans (P5 some J3)
 f221:=func214.trans (P5 some J3)
 f224:=func262.trans (P5 some J3)
 f225:=func261.trans (P5 some J3)
 f260:=func291.trans (P5 some J3)
 f266:=func289.trans (P5 some J3)
 f267:=func263.trans (P5 some J3)
 f268:=func248.trans (P5 some J3)
 f314:=func290.trans (P5 some J3)
 t0:=underlying0
 a0:=Tryz.isAgg0
 z0:=Tryz.sizeOf0
 v0:=Tryz.zeroValue0
 t3:=underlying3
 a3:=Tryz.isAgg3
 z3:=Tryz.sizeOf3
 v3:=Tryz.zeroValue3
 t4:=underlying4
 a4:=Tryz.isAgg4
 z4:=Tryz.sizeOf4
 v4:=Tryz.zeroValue4
 t5:=underlying5
 a5:=Tryz.isAgg5
 z5:=Tryz.sizeOf5
 v5:=Tryz.zeroValue5
 t9:=underlying9
 a9:=Tryz.isAgg9
 z9:=Tryz.sizeOf9
 v9:=Tryz.zeroValue9
 t21:=underlying21
 a21:=Tryz.isAgg21
 z21:=Tryz.sizeOf21
 v21:=Tryz.zeroValue21
 t31:=underlying22
 a31:=Tryz.isAgg22
 z31:=Tryz.sizeOf22
 v31:=Tryz.zeroValue22
 t46:=underlying290
 a46:=Tryz.isAgg290
 z46:=Tryz.sizeOf290
 v46:=Tryz.zeroValue290
 t51:=underlying337
 a51:=Tryz.isAgg337
 z51:=Tryz.sizeOf337
 v51:=Tryz.zeroValue337
 t105:=underlying370
 a105:=Tryz.isAgg370
 z105:=Tryz.sizeOf370
 v105:=Tryz.zeroValue370
 t119:=underlying401
 a119:=Tryz.isAgg401
 z119:=Tryz.sizeOf401
 t138:=underlying403
 a138:=Tryz.isAgg403
 z138:=Tryz.sizeOf403
 v138:=Tryz.zeroValue403
 t139:=underlying404
 a139:=Tryz.isAgg404
 z139:=Tryz.sizeOf404
 v139:=Tryz.zeroValue404
 t146:=underlying338
 a146:=Tryz.isAgg338
 z146:=Tryz.sizeOf338
 v146:=Tryz.zeroValue338
 g1:=J3
 g3:=J3
 g4:=by kernel_rfl }
theorem Tryz.strings_SplitN (s a:BY) (n:Nat) (m:Int) (w:World) (b:s.size<4294967281) (hm:w.cell? ⟨5,0,none⟩=some (.int .i64 m)) (h1:1<=a.size) (d:1<=n) (c:n<=9223372036854775807):
 Calls prog 239 #[.string s,.string a,.int .i64 n] w fun e w'=>
  e=.returned (.slice (some ⟨w.heap.size,0,none⟩) (Lib.splitB a 0 (min n (s.size+1) - 1) s).length (min n (s.size+1)))/\w'=w.alloc (.cells (Lib.cellsOf (Lib.splitB a 0 (min n (s.size+1) - 1) s) (min n (s.size+1))) 9):=Any.strings_SplitN Tryz.lays147 J3 s a n m w b hm h1 d c
end Go.Proofs
namespace Go.Proofs.YtkdbheidpdjimaaGreatDoor
open Proofs.Tryz Go.RowKit
end Go.Proofs.YtkdbheidpdjimaaGreatDoor
namespace Go.Proofs.YtkdbheidpdjimaaGreatDoor.T
open Proofs.Tryz Go.RowKit
variable {w:World} {a:OA} {v:Bool} {t:BY} {h i j:Nat}
theorem Na (q:Nat) (h:q<1048577):IntKind.i64.wrap (q:Int)=(q:Int):=by
 have h1:(q:Int) % 2^64=q:=O0;simp only [IntKind.wrap,IntKind.bits,IntKind.signed,h1];rw [A8 U7]
structure F2 where
 nm:BY
 tx:BY
def P8:F2:=⟨⟨#[]⟩,⟨#[]⟩⟩
def J6 (w:World) (a:OA) (rs:List F2):Prop:=
 rs=[]\/∃ b off,a=some ⟨b,off,none⟩/\b<w.heap.size/\∀ i,i<rs.length->w.cell? ⟨b,off+i*2,none⟩=some (.string (rs.getD i P8).nm)/\w.cell? ⟨b,off+i*2+1,none⟩=some (.string (rs.getD i P8).tx)
theorem h_ {rs:List F2} (h:J6 w a rs):∃ b off,(rs=[]\/(a=some ⟨b,off,none⟩/\b<w.heap.size/\∀ i,i<rs.length->w.cell? ⟨b,off+i*2,none⟩=some (.string (rs.getD i P8).nm)/\w.cell? ⟨b,off+i*2+1,none⟩=some (.string (rs.getD i P8).tx))):=by
 rcases h with h | ⟨b,off,h⟩
 · exact ⟨0,0,.inl h⟩
 exact ⟨b,off,.inr h⟩
theorem U5 {w':World} {rs:List F2} (h:J6 w a rs) (c:Bw w w'):J6 w' a rs:=by
 rcases h with h | ⟨b,off,h1,h2,e⟩
 · exact .inl h
 exact .inr ⟨b,off,h1,m_ h2 c.size,fun i d=>by rw [c.cell (by exact h2),c.cell (by exact h2)];exact e i d⟩
def F2.le (x:F2) (B:Nat):Prop:=x.nm.size<=B/\x.tx.size<=B
theorem Dy (u:World) (B j m:Nat) (b a:Value) (h0:m≠j) (h1:m≠j+1):((u.setCell ⟨B,j,none⟩ b).setCell ⟨B,j+1,none⟩ a).cell? ⟨B,m,none⟩=u.cell? ⟨B,m,none⟩:=by
 rw [La _ _ _ _ (Xd (Ne.symm h1)),La _ _ _ _ (Xd (Ne.symm h0))]
theorem Tt:(prog.info? 99).map (fun i=>(i.zero,i.size,i.bytes))=some (some (.agg #[.string ⟨#[]⟩,.string ⟨#[]⟩]),2,32):=J3
def V_ (x:F2):Bool:=o6 x.nm.data.toList&&decide ((x.tx.size:Int)<=300)
theorem sV (x:F2) (w:World) (b:x.le 1048700):
 Calls prog 151 #[.agg #[.string x.nm,.string x.tx]] w fun e w'=>e=.returned (.bool (V_ x))/\Bw w w':=by
 have a:Hid (V_ x=(o6 x.nm.data.toList&&decide ((x.tx.size:Int)<=300))):=rfl;obtain ⟨h1,h2⟩:=b;go_enter func151,ntmps151
 go_wp2_with fail
 refine (c23 _ _ h1).mono ?_;rintro e w1 ⟨rfl,rfl⟩;cases hn:o6 x.nm.data.toList
 all_goals
  rw [hn] at a;go_wp2
  all_goals go_ret
  all_goals exact ⟨J9 (by rw [a.out];simp),o7⟩
theorem TU (x:F2) (w:World) (b:x.le 1048700):
 Calls prog 133 #[.agg #[.string x.nm,.string x.tx]] w fun e w'=>e=.returned (.bool (V_ x))/\Bw w w':=by
 have a:Hid (V_ x=(o6 x.nm.data.toList&&decide ((x.tx.size:Int)<=300))):=rfl;obtain ⟨h1,h2⟩:=b;go_enter func133,ntmps133
 go_wp2_with fail
 refine (QN _ _ h1).mono ?_;rintro e w1 ⟨rfl,rfl⟩;cases hn:o6 x.nm.data.toList
 all_goals
  rw [hn] at a;go_wp2
  all_goals go_ret
  all_goals exact ⟨J9 (by rw [a.out];simp),o7⟩
theorem zC {x:F2} (hv:V_ x=v) (w:World) (a:x.le 1048700):
 Calls prog 151 #[.agg #[.string x.nm,.string x.tx]] w fun e w'=>e=.returned (.bool v)/\Bw w w':=hv▸sV x w a
theorem tC {x:F2} (hv:V_ x=v) (w:World) (a:x.le 1048700):
 Calls prog 133 #[.agg #[.string x.nm,.string x.tx]] w fun e w'=>e=.returned (.bool v)/\Bw w w':=hv▸TU x w a
def Ie (fs:List F2) (k:Nat):Bool:=V_ (fs.getD k P8)&&(decide (k=0) || Op.bytesLess (fs.getD (k - 1) P8).nm.toList (fs.getD k P8).nm.toList)
def J_ (fs:List F2):Prop:=fs.length<=40/\∀ k,k<fs.length->Ie fs k=true
theorem c156 (a:OA) (r:Nat) (fs:List F2) (w:World) (hl:fs.length<=1048576) (L:∀ i,(fs.getD i P8).le 1048576) (O:J6 w a fs):
 Calls prog 156 #[.agg #[.slice a fs.length r]] w fun e w'=>(∃ b:Bool,e=.returned (.bool b)/\(b=true↔J_ fs))/\Bw w w':=by
 obtain ⟨b,off,hc⟩:=h_ O;have U:=U0 hc;clear hc O;by_cases hbig:40<fs.length
 · go_enter func156,ntmps156;go_wp2;go_ret;exact ⟨⟨false,rfl,by simp [J_];omega⟩,o7⟩
 go_enter func156,ntmps156
 go_wp2_with fail
 go_loopw [3] (fun i wr=>∃ k:Nat,k<=fs.length/\i=.int .i64 k/\Below w.heap.size w wr/\wr.cell? ⟨w.heap.size,0,none⟩=some (.slice a fs.length r)/\w.heap.size+1<=wr.heap.size/\Hid (∀ j,j<k->Ie fs j=true)) (fun i _=>fs.length - (intOf i).toNat)
 case atStart=>exact ⟨0,D5 _,rfl,o7,I4,I4,fun j h=>absurd h (o9 _)⟩
 obtain ⟨k,hk,rfl,o,t0,J,I⟩:=hrel;by_cases t:k<fs.length;rotate_left
 · have C:Hid (J_ fs):=⟨O0,fun j N=>I.out j O0⟩;go_wp2;go_ret;exact ⟨⟨true,rfl,by simp only [true_iff];exact C.out⟩,o⟩
 obtain ⟨ha,E,D⟩:=Nc U.out t;subst ha;have z:=U0 o;have g0:=(o.cell (p:=⟨b,off+k*2,none⟩) E).trans (D k t).1;have g1:=(o.cell (p:=⟨b,off+k*2+1,none⟩) E).trans (D k t).2;have f:=m_ E o.size;have v:Hid ((fs.getD k P8).le 1048700):=⟨Q7 (L k).1 O0,Q7 (L k).2 O0⟩;rcases Iu k with h0 | h0
 · subst h0;have g:Hid (Ie fs 0=V_ (fs.getD 0 P8)):=by simp [Ie,Hid]
   simp only [Wq,Zo] at g0 g1;generalize fs.getD 0 P8=x at*;clear D o;cases hx:V_ x
   · go_wp2_with fail
     refine wp_region_held_drew (S:=(fun u=>u.cell? ⟨w.heap.size,0,none⟩=some (vL (some ⟨b,off,none⟩) fs.length r)/\u.cell? ⟨b,off,none⟩=some (vS x.nm)/\u.cell? ⟨b,off+1,none⟩=some (vS x.tx))) J3 ?_ fun hH=>?_
     · ((try dsimp only);go_keep)
     refine tq 0 hH ?_;refine Y0 1 ?_;refine tq 2 hH ?_;refine Y0 3 ?_;refine Y0 4 ?_;refine rq 5 fun K d=>?_;go_simp;refine (zC hx _ v.out).mono ?_;rintro e l ⟨rfl,m⟩;have c:Hid (Bw wr l):=((Z4 _ _).drew).trans m;have s:=(c.out.cell (p:=⟨w.heap.size,0,none⟩) (by show w.heap.size<wr.heap.size;omega)).trans t0;have B:=(c.out.cell (p:=⟨b,off,none⟩) f).trans g0;have A:=(c.out.cell (p:=⟨b,off+1,none⟩) f).trans g1
     go_wp2_with fail
     clear hH;refine VA d fun hH=>?_;clear d K;refine tq 6 hH ?_;refine Y0 7 ?_;refine uq 8 hH ?_;refine Y4 9 ?_;refine uq 10 hH ?_;refine Y4 11 ?_;refine uq 12 hH ?_;refine Y4 13 ?_;refine uq 14 hH ?_;refine Y4 15 ?_;refine uq 16 hH ?_;refine Y4 17 ?_;refine uq 18 hH ?_;refine Y4 19 ?_;refine uq 20 hH ?_;refine Y4 21 ?_;refine uq 22 hH ?_;refine Y4 23 ?_;refine uq 24 hH ?_;refine Y4 25 ?_;refine Y0 26 ?_;refine wdn ?_;have n:=G7 z.out c.out;rw [hx] at g;clear hH;go_wp2;go_ret;exact ⟨⟨false,rfl,by simp only [Zv,Xn];intro h;have:=h.2 _ t;rw [g.out] at this;cases this⟩,n⟩
   go_wp2_with fail
   refine wp_region_held_drew (S:=(fun u=>u.cell? ⟨w.heap.size,0,none⟩=some (vL (some ⟨b,off,none⟩) fs.length r)/\u.cell? ⟨b,off,none⟩=some (vS x.nm)/\u.cell? ⟨b,off+1,none⟩=some (vS x.tx))) J3 ?_ fun hH=>?_
   · ((try dsimp only);go_keep)
   refine tq 0 hH ?_;refine Y0 1 ?_;refine tq 2 hH ?_;refine Y0 3 ?_;refine Y0 4 ?_;refine rq 5 fun K d=>?_;go_simp;refine (zC hx _ v.out).mono ?_;rintro e l ⟨rfl,m⟩;have c:Hid (Bw wr l):=((Z4 _ _).drew).trans m;have s:=(c.out.cell (p:=⟨w.heap.size,0,none⟩) (by show w.heap.size<wr.heap.size;omega)).trans t0;have B:=(c.out.cell (p:=⟨b,off,none⟩) f).trans g0;have A:=(c.out.cell (p:=⟨b,off+1,none⟩) f).trans g1
   go_wp2_with fail
   clear hH;refine VA d fun hH=>?_;clear d K;refine tq 6 hH ?_;refine Y0 7 ?_;refine tq 8 hH ?_;refine Y0 9 ?_;refine tq 10 hH ?_;refine Y4 11 ?_;refine uq 12 hH ?_;refine Y4 13 ?_;refine uq 14 hH ?_;refine Y4 15 ?_;refine uq 16 hH ?_;refine Y4 17 ?_;refine uq 18 hH ?_;refine Y4 19 ?_;refine uq 20 hH ?_;refine Y4 21 ?_;refine uq 22 hH ?_;refine Y4 23 ?_;refine uq 24 hH ?_;refine Y0 25 ?_;refine Y0 26 ?_;refine wdn ?_;have n:=G7 z.out c.out;have H:=Q7 J c.out.size;rw [hx] at g;have C:Hid (∀ j,j<0+1->Ie fs j=true):=fun j N=>by
    rcases o8 j 0 with h | h
    · exact I.out j h
    obtain rfl:j=0:=O0;exact g.out
   clear hH;go_wp2;go_roundw
   case rel=>exact ⟨0+1,O0,by go_num,n,s,H,C⟩
   case measure=>simp [intOf];omega
 obtain ⟨q,P⟩:∃ q,q+1=k:=⟨k - 1,O0⟩;have g2:=(o.cell (p:=⟨b,off+q*2,none⟩) E).trans (D q O0).1;have g:Hid (Ie fs k=(V_ (fs.getD k P8)&&Op.bytesLess (fs.getD q P8).nm.toList (fs.getD k P8).nm.toList)):=by
  have e1:decide (k=0)=false:=P9 O0;have R:k - 1=q:=O0;unfold Ie;rw [e1,R];rfl
 have Q:(0:Int)<(k:Int):=O0;have hm1:=y_ Q;generalize fs.getD k P8=x at*;generalize fs.getD q P8=y at*;have hwr:IntKind.i64.wrap ((k:Int) - 1)=(q:Int):=by rw [show (k:Int) - 1=(q:Int) by omega];exact Na q O0
 have hql:(q:Int)<(fs.length:Int):=O0;clear P;clear D o;cases hx:V_ x
 · cases hy:Op.bytesLess y.nm.toList x.nm.toList
   · go_wp2_with fail
     refine wp_region_held_drew (S:=(fun u=>u.cell? ⟨w.heap.size,0,none⟩=some (vL (some ⟨b,off,none⟩) fs.length r)/\u.cell? ⟨b,off+k*2,none⟩=some (vS x.nm)/\u.cell? ⟨b,off+k*2+1,none⟩=some (vS x.tx)/\u.cell? ⟨b,off+q*2,none⟩=some (vS y.nm))) J3 ?_ fun hH=>?_
     · ((try dsimp only);go_keep)
     refine tq 0 hH ?_;refine Y0 1 ?_;refine tq 2 hH ?_;refine Y0 3 ?_;refine Y0 4 ?_;refine rq 5 fun K d=>?_;go_simp;refine (zC hx _ v.out).mono ?_;rintro e l ⟨rfl,m⟩;have c:Hid (Bw wr l):=((Z4 _ _).drew).trans m;have s:=(c.out.cell (p:=⟨w.heap.size,0,none⟩) (by show w.heap.size<wr.heap.size;omega)).trans t0;have B:=(c.out.cell (p:=⟨b,off+k*2,none⟩) f).trans g0;have A:=(c.out.cell (p:=⟨b,off+k*2+1,none⟩) f).trans g1;have F:=(c.out.cell (p:=⟨b,off+q*2,none⟩) f).trans g2
     go_wp2_with fail
     clear hH;refine VA d fun hH=>?_;clear d K;refine tq 6 hH ?_;refine Y0 7 ?_;refine uq 8 hH ?_;refine Y4 9 ?_;refine uq 10 hH ?_;refine Y4 11 ?_;refine uq 12 hH ?_;refine Y4 13 ?_;refine uq 14 hH ?_;refine Y4 15 ?_;refine uq 16 hH ?_;refine Y4 17 ?_;refine uq 18 hH ?_;refine Y4 19 ?_;refine uq 20 hH ?_;refine Y4 21 ?_;refine uq 22 hH ?_;refine Y4 23 ?_;refine uq 24 hH ?_;refine Y4 25 ?_;refine Y0 26 ?_;refine wdn ?_;have n:=G7 z.out c.out;rw [hx,hy] at g;clear hH;go_wp2;go_ret;exact ⟨⟨false,rfl,by simp only [Zv,Xn];intro h;have:=h.2 _ t;rw [g.out] at this;cases this⟩,n⟩
   go_wp2_with fail
   refine wp_region_held_drew (S:=(fun u=>u.cell? ⟨w.heap.size,0,none⟩=some (vL (some ⟨b,off,none⟩) fs.length r)/\u.cell? ⟨b,off+k*2,none⟩=some (vS x.nm)/\u.cell? ⟨b,off+k*2+1,none⟩=some (vS x.tx)/\u.cell? ⟨b,off+q*2,none⟩=some (vS y.nm))) J3 ?_ fun hH=>?_
   · ((try dsimp only);go_keep)
   refine tq 0 hH ?_;refine Y0 1 ?_;refine tq 2 hH ?_;refine Y0 3 ?_;refine Y0 4 ?_;refine rq 5 fun K d=>?_;go_simp;refine (zC hx _ v.out).mono ?_;rintro e l ⟨rfl,m⟩;have c:Hid (Bw wr l):=((Z4 _ _).drew).trans m;have s:=(c.out.cell (p:=⟨w.heap.size,0,none⟩) (by show w.heap.size<wr.heap.size;omega)).trans t0;have B:=(c.out.cell (p:=⟨b,off+k*2,none⟩) f).trans g0;have A:=(c.out.cell (p:=⟨b,off+k*2+1,none⟩) f).trans g1;have F:=(c.out.cell (p:=⟨b,off+q*2,none⟩) f).trans g2
   go_wp2_with fail
   clear hH;refine VA d fun hH=>?_;clear d K;refine tq 6 hH ?_;refine Y0 7 ?_;refine uq 8 hH ?_;refine Y4 9 ?_;refine uq 10 hH ?_;refine Y4 11 ?_;refine uq 12 hH ?_;refine Y4 13 ?_;refine uq 14 hH ?_;refine Y4 15 ?_;refine uq 16 hH ?_;refine Y4 17 ?_;refine uq 18 hH ?_;refine Y4 19 ?_;refine uq 20 hH ?_;refine Y4 21 ?_;refine uq 22 hH ?_;refine Y4 23 ?_;refine uq 24 hH ?_;refine Y4 25 ?_;refine Y0 26 ?_;refine wdn ?_;have n:=G7 z.out c.out;rw [hx,hy] at g;clear hH;go_wp2;go_ret;exact ⟨⟨false,rfl,by simp only [Zv,Xn];intro h;have:=h.2 _ t;rw [g.out] at this;cases this⟩,n⟩
 cases hy:Op.bytesLess y.nm.toList x.nm.toList
 · go_wp2_with fail
   refine wp_region_held_drew (S:=(fun u=>u.cell? ⟨w.heap.size,0,none⟩=some (vL (some ⟨b,off,none⟩) fs.length r)/\u.cell? ⟨b,off+k*2,none⟩=some (vS x.nm)/\u.cell? ⟨b,off+k*2+1,none⟩=some (vS x.tx)/\u.cell? ⟨b,off+q*2,none⟩=some (vS y.nm))) J3 ?_ fun hH=>?_
   · ((try dsimp only);go_keep)
   refine tq 0 hH ?_;refine Y0 1 ?_;refine tq 2 hH ?_;refine Y0 3 ?_;refine Y0 4 ?_;refine rq 5 fun K d=>?_;go_simp;refine (zC hx _ v.out).mono ?_;rintro e l ⟨rfl,m⟩;have c:Hid (Bw wr l):=((Z4 _ _).drew).trans m;have s:=(c.out.cell (p:=⟨w.heap.size,0,none⟩) (by show w.heap.size<wr.heap.size;omega)).trans t0;have B:=(c.out.cell (p:=⟨b,off+k*2,none⟩) f).trans g0;have A:=(c.out.cell (p:=⟨b,off+k*2+1,none⟩) f).trans g1;have F:=(c.out.cell (p:=⟨b,off+q*2,none⟩) f).trans g2
   go_wp2_with fail
   clear hH;refine VA d fun hH=>?_;clear d K;refine tq 6 hH ?_;refine Y0 7 ?_;refine tq 8 hH ?_;refine Y0 9 ?_;refine tq 10 hH ?_;refine Y0 11 ?_;refine tq 12 hH ?_;refine Y0 13 ?_;refine tq 14 hH ?_;refine Y0 15 ?_;refine tq 16 hH ?_;refine Y0 17 ?_;refine tq 18 hH ?_;refine Y0 19 ?_;refine tq 20 hH ?_;refine Y0 21 ?_;refine tq 22 hH ?_;refine Y0 23 ?_;refine tq 24 hH ?_;refine Y0 25 ?_;refine Y0 26 ?_;refine wdn ?_;have n:=G7 z.out c.out;rw [hx,hy] at g;clear hH;go_wp2;go_ret;exact ⟨⟨false,rfl,by simp only [Zv,Xn];intro h;have:=h.2 _ t;rw [g.out] at this;cases this⟩,n⟩
 go_wp2_with fail
 refine wp_region_held_drew (S:=(fun u=>u.cell? ⟨w.heap.size,0,none⟩=some (vL (some ⟨b,off,none⟩) fs.length r)/\u.cell? ⟨b,off+k*2,none⟩=some (vS x.nm)/\u.cell? ⟨b,off+k*2+1,none⟩=some (vS x.tx)/\u.cell? ⟨b,off+q*2,none⟩=some (vS y.nm))) J3 ?_ fun hH=>?_
 · ((try dsimp only);go_keep)
 refine tq 0 hH ?_;refine Y0 1 ?_;refine tq 2 hH ?_;refine Y0 3 ?_;refine Y0 4 ?_;refine rq 5 fun K d=>?_;go_simp;refine (zC hx _ v.out).mono ?_;rintro e l ⟨rfl,m⟩;have c:Hid (Bw wr l):=((Z4 _ _).drew).trans m;have s:=(c.out.cell (p:=⟨w.heap.size,0,none⟩) (by show w.heap.size<wr.heap.size;omega)).trans t0;have B:=(c.out.cell (p:=⟨b,off+k*2,none⟩) f).trans g0;have A:=(c.out.cell (p:=⟨b,off+k*2+1,none⟩) f).trans g1;have F:=(c.out.cell (p:=⟨b,off+q*2,none⟩) f).trans g2
 go_wp2_with fail
 clear hH;refine VA d fun hH=>?_;clear d K;refine tq 6 hH ?_;refine Y0 7 ?_;refine tq 8 hH ?_;refine Y0 9 ?_;refine tq 10 hH ?_;refine Y0 11 ?_;refine tq 12 hH ?_;refine Y0 13 ?_;refine tq 14 hH ?_;refine Y0 15 ?_;refine tq 16 hH ?_;refine Y0 17 ?_;refine tq 18 hH ?_;refine Y0 19 ?_;refine tq 20 hH ?_;refine Y0 21 ?_;refine tq 22 hH ?_;refine Y0 23 ?_;refine tq 24 hH ?_;refine Y0 25 ?_;refine Y0 26 ?_;refine wdn ?_;have n:=G7 z.out c.out;have H:=Q7 J c.out.size;rw [hx,hy] at g;have C:Hid (∀ j,j<k+1->Ie fs j=true):=fun j N=>by
  rcases o8 j k with h | h
  · exact I.out j h
  obtain rfl:j=k:=O0;exact g.out
 clear hH;go_wp2;go_roundw
 case rel=>exact ⟨k+1,O0,by go_num,n,s,H,C⟩
 case measure=>simp [intOf];omega
theorem c81 (a:OA) (B:Nat) (fs:List F2) (w:World) (hl:fs.length<=1048576) (U:∀ i,(fs.getD i P8).le 1048576) (X:J6 w a fs):
 Calls prog 81 #[.agg #[.slice a fs.length B]] w fun e w'=>(∃ b:Bool,e=.returned (.bool b)/\(b=true↔J_ fs))/\Bw w w':=by
 obtain ⟨b,off,hc⟩:=h_ X;have HC:=U0 hc;clear hc X;by_cases hbig:40<fs.length
 · go_enter func81,ntmps81;go_wp2;go_ret;exact ⟨⟨false,rfl,by simp [J_];omega⟩,o7⟩
 go_enter func81,ntmps81
 go_wp2_with fail
 go_loopw [12] (fun i wr=>∃ k:Nat,k<=fs.length/\i=.int .i64 k/\Below w.heap.size w wr/\wr.cell? ⟨w.heap.size,0,none⟩=some (.slice a fs.length B)/\w.heap.size+1<=wr.heap.size/\Hid (∀ j,j<k->Ie fs j=true)) (fun i _=>fs.length - (intOf i).toNat)
 case atStart=>exact ⟨0,D5 _,rfl,o7,I4,I4,fun j h=>absurd h (o9 _)⟩
 obtain ⟨k,hk,rfl,A,t0,hz,R⟩:=hrel;by_cases E:k<fs.length;rotate_left
 · have J:Hid (J_ fs):=⟨O0,fun j V=>R.out j O0⟩;go_wp2;go_ret;exact ⟨⟨true,rfl,by simp only [true_iff];exact J.out⟩,A⟩
 obtain ⟨ha,N,L⟩:=Nc HC.out E;subst ha;have n:=U0 A;have g0:=(A.cell (p:=⟨b,off+k*2,none⟩) N).trans (L k E).1;have g1:=(A.cell (p:=⟨b,off+k*2+1,none⟩) N).trans (L k E).2;have O:=m_ N A.size;have F:Hid ((fs.getD k P8).le 1048700):=⟨Q7 (U k).1 O0,Q7 (U k).2 O0⟩;rcases Iu k with h0 | h0
 · subst h0;have m:Hid (Ie fs 0=V_ (fs.getD 0 P8)):=by simp [Ie,Hid]
   simp only [Wq,Zo] at g0 g1;generalize fs.getD 0 P8=x at*;clear L A;cases hx:V_ x
   · go_wp2_with fail
     have d:Hid (Bw wr (wr.alloc (.cells #[vS x.nm,vS x.tx] 99))):=o7;have t1:=(d.out.cell (p:=⟨w.heap.size,0,none⟩) (by show w.heap.size<wr.heap.size;omega)).trans t0;have v:(wr.alloc (.cells #[vS x.nm,vS x.tx] 99)).cell? ⟨wr.heap.size,0,none⟩=some (vS x.nm):=I4;have t:(wr.alloc (.cells #[vS x.nm,vS x.tx] 99)).cell? ⟨wr.heap.size,1,none⟩=some (vS x.tx):=I4;have g:wr.heap.size<(wr.alloc (.cells #[vS x.nm,vS x.tx] 99)).heap.size:=I4;generalize (wr.alloc (.cells #[vS x.nm,vS x.tx] 99))=W at*;have o:w.heap.size<W.heap.size:=O0;have z:b<W.heap.size:=O0;refine wp_region_held_drew (S:=(fun u=>u.cell? ⟨w.heap.size,0,none⟩=some (vL (some ⟨b,off,none⟩) fs.length B)/\u.cell? ⟨wr.heap.size,0,none⟩=some (vS x.nm)/\u.cell? ⟨wr.heap.size,1,none⟩=some (vS x.tx))) J3 ?_ fun hH=>?_
     · ((try dsimp only);go_keep)
     refine Y0 0 ?_;refine rq 1 fun K f=>?_;go_simp;refine (tC hx _ F.out).mono ?_;rintro e l ⟨rfl,r⟩;have c:Hid (Bw W l):=((Z4 _ _).drew).trans r;have D:=(c.out.cell (p:=⟨w.heap.size,0,none⟩) o).trans t1;have I:=(c.out.cell (p:=⟨wr.heap.size,0,none⟩) g).trans v;have H:=(c.out.cell (p:=⟨wr.heap.size,1,none⟩) g).trans t
     go_wp2_with fail
     clear hH;refine VA f fun hH=>?_;clear f K;refine tq 2 hH ?_;refine Y0 3 ?_;refine uq 4 hH ?_;refine Y4 5 ?_;refine uq 6 hH ?_;refine Y4 7 ?_;refine uq 8 hH ?_;refine Y4 9 ?_;refine uq 10 hH ?_;refine Y4 11 ?_;refine uq 12 hH ?_;refine Y4 13 ?_;refine uq 14 hH ?_;refine Y4 15 ?_;refine uq 16 hH ?_;refine Y4 17 ?_;refine Y0 18 ?_;refine wdn ?_;have s:=n.out.trans ((d.out.trans (c.out.mono O0)).mono n.out.size);rw [hx] at m;clear hH;go_wp2;go_ret;exact ⟨⟨false,rfl,by simp only [Zv,Xn];intro h;have:=h.2 _ E;rw [m.out] at this;cases this⟩,s⟩
   go_wp2_with fail
   have d:Hid (Bw wr (wr.alloc (.cells #[vS x.nm,vS x.tx] 99))):=o7;have t1:=(d.out.cell (p:=⟨w.heap.size,0,none⟩) (by show w.heap.size<wr.heap.size;omega)).trans t0;have v:(wr.alloc (.cells #[vS x.nm,vS x.tx] 99)).cell? ⟨wr.heap.size,0,none⟩=some (vS x.nm):=I4;have t:(wr.alloc (.cells #[vS x.nm,vS x.tx] 99)).cell? ⟨wr.heap.size,1,none⟩=some (vS x.tx):=I4;have g:wr.heap.size<(wr.alloc (.cells #[vS x.nm,vS x.tx] 99)).heap.size:=I4;generalize (wr.alloc (.cells #[vS x.nm,vS x.tx] 99))=W at*;have o:w.heap.size<W.heap.size:=O0;have z:b<W.heap.size:=O0;refine wp_region_held_drew (S:=(fun u=>u.cell? ⟨w.heap.size,0,none⟩=some (vL (some ⟨b,off,none⟩) fs.length B)/\u.cell? ⟨wr.heap.size,0,none⟩=some (vS x.nm)/\u.cell? ⟨wr.heap.size,1,none⟩=some (vS x.tx))) J3 ?_ fun hH=>?_
   · ((try dsimp only);go_keep)
   refine Y0 0 ?_;refine rq 1 fun K f=>?_;go_simp;refine (tC hx _ F.out).mono ?_;rintro e l ⟨rfl,r⟩;have c:Hid (Bw W l):=((Z4 _ _).drew).trans r;have D:=(c.out.cell (p:=⟨w.heap.size,0,none⟩) o).trans t1;have I:=(c.out.cell (p:=⟨wr.heap.size,0,none⟩) g).trans v;have H:=(c.out.cell (p:=⟨wr.heap.size,1,none⟩) g).trans t
   go_wp2_with fail
   clear hH;refine VA f fun hH=>?_;clear f K;refine tq 2 hH ?_;refine Y0 3 ?_;refine tq 4 hH ?_;refine Y0 5 ?_;refine tq 6 hH ?_;refine Y4 7 ?_;refine uq 8 hH ?_;refine Y4 9 ?_;refine uq 10 hH ?_;refine Y4 11 ?_;refine uq 12 hH ?_;refine Y4 13 ?_;refine uq 14 hH ?_;refine Y4 15 ?_;refine uq 16 hH ?_;refine Y0 17 ?_;refine Y0 18 ?_;refine wdn ?_;have s:=n.out.trans ((d.out.trans (c.out.mono O0)).mono n.out.size);have Q:w.heap.size+1<=l.heap.size:=by have:=c.out.size;omega
   rw [hx] at m;have J:Hid (∀ j,j<0+1->Ie fs j=true):=fun j V=>by
    rcases o8 j 0 with h | h
    · exact R.out j h
    obtain rfl:j=0:=O0;exact m.out
   clear hH;go_wp2;go_roundw
   case rel=>exact ⟨0+1,O0,by go_num,s,D,Q,J⟩
   case measure=>simp [intOf];omega
 obtain ⟨q,Y⟩:∃ q,q+1=k:=⟨k - 1,O0⟩;have g2:=(A.cell (p:=⟨b,off+q*2,none⟩) N).trans (L q O0).1;have m:Hid (Ie fs k=(V_ (fs.getD k P8)&&Op.bytesLess (fs.getD q P8).nm.toList (fs.getD k P8).nm.toList)):=by
  have e1:decide (k=0)=false:=P9 O0;have e2:k - 1=q:=O0;unfold Ie;rw [e1,e2];rfl
 have Z:(0:Int)<(k:Int):=O0;have hm1:=y_ Z;generalize fs.getD k P8=x at*;generalize fs.getD q P8=y at*;have hwr:IntKind.i64.wrap ((k:Int) - 1)=(q:Int):=by rw [show (k:Int) - 1=(q:Int) by omega];exact Na q O0
 have hql:(q:Int)<(fs.length:Int):=O0;clear Y;clear L A;cases hx:V_ x
 · cases hy:Op.bytesLess y.nm.toList x.nm.toList
   · go_wp2_with fail
     have d:Hid (Bw wr (wr.alloc (.cells #[vS x.nm,vS x.tx] 99))):=o7;have t1:=(d.out.cell (p:=⟨w.heap.size,0,none⟩) (by show w.heap.size<wr.heap.size;omega)).trans t0;have C:=(d.out.cell (p:=⟨b,off+q*2,none⟩) O).trans g2;have v:(wr.alloc (.cells #[vS x.nm,vS x.tx] 99)).cell? ⟨wr.heap.size,0,none⟩=some (vS x.nm):=I4;have t:(wr.alloc (.cells #[vS x.nm,vS x.tx] 99)).cell? ⟨wr.heap.size,1,none⟩=some (vS x.tx):=I4;have g:wr.heap.size<(wr.alloc (.cells #[vS x.nm,vS x.tx] 99)).heap.size:=I4;generalize (wr.alloc (.cells #[vS x.nm,vS x.tx] 99))=W at*;have o:w.heap.size<W.heap.size:=O0;have z:b<W.heap.size:=O0;refine wp_region_held_drew (S:=(fun u=>u.cell? ⟨w.heap.size,0,none⟩=some (vL (some ⟨b,off,none⟩) fs.length B)/\u.cell? ⟨wr.heap.size,0,none⟩=some (vS x.nm)/\u.cell? ⟨wr.heap.size,1,none⟩=some (vS x.tx)/\u.cell? ⟨b,off+q*2,none⟩=some (vS y.nm))) J3 ?_ fun hH=>?_
     · ((try dsimp only);go_keep)
     refine Y0 0 ?_;refine rq 1 fun K f=>?_;go_simp;refine (tC hx _ F.out).mono ?_;rintro e l ⟨rfl,r⟩;have c:Hid (Bw W l):=((Z4 _ _).drew).trans r;have D:=(c.out.cell (p:=⟨w.heap.size,0,none⟩) o).trans t1;have I:=(c.out.cell (p:=⟨wr.heap.size,0,none⟩) g).trans v;have H:=(c.out.cell (p:=⟨wr.heap.size,1,none⟩) g).trans t;have P:=(c.out.cell (p:=⟨b,off+q*2,none⟩) z).trans C
     go_wp2_with fail
     clear hH;refine VA f fun hH=>?_;clear f K;refine tq 2 hH ?_;refine Y0 3 ?_;refine uq 4 hH ?_;refine Y4 5 ?_;refine uq 6 hH ?_;refine Y4 7 ?_;refine uq 8 hH ?_;refine Y4 9 ?_;refine uq 10 hH ?_;refine Y4 11 ?_;refine uq 12 hH ?_;refine Y4 13 ?_;refine uq 14 hH ?_;refine Y4 15 ?_;refine uq 16 hH ?_;refine Y4 17 ?_;refine Y0 18 ?_;refine wdn ?_;have s:=n.out.trans ((d.out.trans (c.out.mono O0)).mono n.out.size);rw [hx,hy] at m;clear hH;go_wp2;go_ret;exact ⟨⟨false,rfl,by simp only [Zv,Xn];intro h;have:=h.2 _ E;rw [m.out] at this;cases this⟩,s⟩
   go_wp2_with fail
   have d:Hid (Bw wr (wr.alloc (.cells #[vS x.nm,vS x.tx] 99))):=o7;have t1:=(d.out.cell (p:=⟨w.heap.size,0,none⟩) (by show w.heap.size<wr.heap.size;omega)).trans t0;have C:=(d.out.cell (p:=⟨b,off+q*2,none⟩) O).trans g2;have v:(wr.alloc (.cells #[vS x.nm,vS x.tx] 99)).cell? ⟨wr.heap.size,0,none⟩=some (vS x.nm):=I4;have t:(wr.alloc (.cells #[vS x.nm,vS x.tx] 99)).cell? ⟨wr.heap.size,1,none⟩=some (vS x.tx):=I4;have g:wr.heap.size<(wr.alloc (.cells #[vS x.nm,vS x.tx] 99)).heap.size:=I4;generalize (wr.alloc (.cells #[vS x.nm,vS x.tx] 99))=W at*;have o:w.heap.size<W.heap.size:=O0;have z:b<W.heap.size:=O0;refine wp_region_held_drew (S:=(fun u=>u.cell? ⟨w.heap.size,0,none⟩=some (vL (some ⟨b,off,none⟩) fs.length B)/\u.cell? ⟨wr.heap.size,0,none⟩=some (vS x.nm)/\u.cell? ⟨wr.heap.size,1,none⟩=some (vS x.tx)/\u.cell? ⟨b,off+q*2,none⟩=some (vS y.nm))) J3 ?_ fun hH=>?_
   · ((try dsimp only);go_keep)
   refine Y0 0 ?_;refine rq 1 fun K f=>?_;go_simp;refine (tC hx _ F.out).mono ?_;rintro e l ⟨rfl,r⟩;have c:Hid (Bw W l):=((Z4 _ _).drew).trans r;have D:=(c.out.cell (p:=⟨w.heap.size,0,none⟩) o).trans t1;have I:=(c.out.cell (p:=⟨wr.heap.size,0,none⟩) g).trans v;have H:=(c.out.cell (p:=⟨wr.heap.size,1,none⟩) g).trans t;have P:=(c.out.cell (p:=⟨b,off+q*2,none⟩) z).trans C
   go_wp2_with fail
   clear hH;refine VA f fun hH=>?_;clear f K;refine tq 2 hH ?_;refine Y0 3 ?_;refine uq 4 hH ?_;refine Y4 5 ?_;refine uq 6 hH ?_;refine Y4 7 ?_;refine uq 8 hH ?_;refine Y4 9 ?_;refine uq 10 hH ?_;refine Y4 11 ?_;refine uq 12 hH ?_;refine Y4 13 ?_;refine uq 14 hH ?_;refine Y4 15 ?_;refine uq 16 hH ?_;refine Y4 17 ?_;refine Y0 18 ?_;refine wdn ?_;have s:=n.out.trans ((d.out.trans (c.out.mono O0)).mono n.out.size);rw [hx,hy] at m;clear hH;go_wp2;go_ret;exact ⟨⟨false,rfl,by simp only [Zv,Xn];intro h;have:=h.2 _ E;rw [m.out] at this;cases this⟩,s⟩
 cases hy:Op.bytesLess y.nm.toList x.nm.toList
 · go_wp2_with fail
   have d:Hid (Bw wr (wr.alloc (.cells #[vS x.nm,vS x.tx] 99))):=o7;have t1:=(d.out.cell (p:=⟨w.heap.size,0,none⟩) (by show w.heap.size<wr.heap.size;omega)).trans t0;have C:=(d.out.cell (p:=⟨b,off+q*2,none⟩) O).trans g2;have v:(wr.alloc (.cells #[vS x.nm,vS x.tx] 99)).cell? ⟨wr.heap.size,0,none⟩=some (vS x.nm):=I4;have t:(wr.alloc (.cells #[vS x.nm,vS x.tx] 99)).cell? ⟨wr.heap.size,1,none⟩=some (vS x.tx):=I4;have g:wr.heap.size<(wr.alloc (.cells #[vS x.nm,vS x.tx] 99)).heap.size:=I4;generalize (wr.alloc (.cells #[vS x.nm,vS x.tx] 99))=W at*;have o:w.heap.size<W.heap.size:=O0;have z:b<W.heap.size:=O0;refine wp_region_held_drew (S:=(fun u=>u.cell? ⟨w.heap.size,0,none⟩=some (vL (some ⟨b,off,none⟩) fs.length B)/\u.cell? ⟨wr.heap.size,0,none⟩=some (vS x.nm)/\u.cell? ⟨wr.heap.size,1,none⟩=some (vS x.tx)/\u.cell? ⟨b,off+q*2,none⟩=some (vS y.nm))) J3 ?_ fun hH=>?_
   · ((try dsimp only);go_keep)
   refine Y0 0 ?_;refine rq 1 fun K f=>?_;go_simp;refine (tC hx _ F.out).mono ?_;rintro e l ⟨rfl,r⟩;have c:Hid (Bw W l):=((Z4 _ _).drew).trans r;have D:=(c.out.cell (p:=⟨w.heap.size,0,none⟩) o).trans t1;have I:=(c.out.cell (p:=⟨wr.heap.size,0,none⟩) g).trans v;have H:=(c.out.cell (p:=⟨wr.heap.size,1,none⟩) g).trans t;have P:=(c.out.cell (p:=⟨b,off+q*2,none⟩) z).trans C
   go_wp2_with fail
   clear hH;refine VA f fun hH=>?_;clear f K;refine tq 2 hH ?_;refine Y0 3 ?_;refine tq 4 hH ?_;refine Y0 5 ?_;refine tq 6 hH ?_;refine Y0 7 ?_;refine tq 8 hH ?_;refine Y0 9 ?_;refine tq 10 hH ?_;refine Y0 11 ?_;refine tq 12 hH ?_;refine Y0 13 ?_;refine tq 14 hH ?_;refine Y0 15 ?_;refine tq 16 hH ?_;refine Y0 17 ?_;refine Y0 18 ?_;refine wdn ?_;have s:=n.out.trans ((d.out.trans (c.out.mono O0)).mono n.out.size);rw [hx,hy] at m;clear hH;go_wp2;go_ret;exact ⟨⟨false,rfl,by simp only [Zv,Xn];intro h;have:=h.2 _ E;rw [m.out] at this;cases this⟩,s⟩
 go_wp2_with fail
 have d:Hid (Bw wr (wr.alloc (.cells #[vS x.nm,vS x.tx] 99))):=o7;have t1:=(d.out.cell (p:=⟨w.heap.size,0,none⟩) (by show w.heap.size<wr.heap.size;omega)).trans t0;have C:=(d.out.cell (p:=⟨b,off+q*2,none⟩) O).trans g2;have v:(wr.alloc (.cells #[vS x.nm,vS x.tx] 99)).cell? ⟨wr.heap.size,0,none⟩=some (vS x.nm):=I4;have t:(wr.alloc (.cells #[vS x.nm,vS x.tx] 99)).cell? ⟨wr.heap.size,1,none⟩=some (vS x.tx):=I4;have g:wr.heap.size<(wr.alloc (.cells #[vS x.nm,vS x.tx] 99)).heap.size:=I4;generalize (wr.alloc (.cells #[vS x.nm,vS x.tx] 99))=W at*;have o:w.heap.size<W.heap.size:=O0;have z:b<W.heap.size:=O0;refine wp_region_held_drew (S:=(fun u=>u.cell? ⟨w.heap.size,0,none⟩=some (vL (some ⟨b,off,none⟩) fs.length B)/\u.cell? ⟨wr.heap.size,0,none⟩=some (vS x.nm)/\u.cell? ⟨wr.heap.size,1,none⟩=some (vS x.tx)/\u.cell? ⟨b,off+q*2,none⟩=some (vS y.nm))) J3 ?_ fun hH=>?_
 · ((try dsimp only);go_keep)
 refine Y0 0 ?_;refine rq 1 fun K f=>?_;go_simp;refine (tC hx _ F.out).mono ?_;rintro e l ⟨rfl,r⟩;have c:Hid (Bw W l):=((Z4 _ _).drew).trans r;have D:=(c.out.cell (p:=⟨w.heap.size,0,none⟩) o).trans t1;have I:=(c.out.cell (p:=⟨wr.heap.size,0,none⟩) g).trans v;have H:=(c.out.cell (p:=⟨wr.heap.size,1,none⟩) g).trans t;have P:=(c.out.cell (p:=⟨b,off+q*2,none⟩) z).trans C
 go_wp2_with fail
 clear hH;refine VA f fun hH=>?_;clear f K;refine tq 2 hH ?_;refine Y0 3 ?_;refine tq 4 hH ?_;refine Y0 5 ?_;refine tq 6 hH ?_;refine Y0 7 ?_;refine tq 8 hH ?_;refine Y0 9 ?_;refine tq 10 hH ?_;refine Y0 11 ?_;refine tq 12 hH ?_;refine Y0 13 ?_;refine tq 14 hH ?_;refine Y0 15 ?_;refine tq 16 hH ?_;refine Y0 17 ?_;refine Y0 18 ?_;refine wdn ?_;have s:=n.out.trans ((d.out.trans (c.out.mono O0)).mono n.out.size);have Q:w.heap.size+1<=l.heap.size:=by have:=c.out.size;omega
 rw [hx,hy] at m;have J:Hid (∀ j,j<k+1->Ie fs j=true):=fun j V=>by
  rcases o8 j k with h | h
  · exact R.out j h
  obtain rfl:j=k:=O0;exact m.out
 clear hH;go_wp2;go_roundw
 case rel=>exact ⟨k+1,O0,by go_num,s,D,Q,J⟩
 case measure=>simp [intOf];omega
theorem xq {g:Nat} {is:List F2} {q:Addr} {v:Value} (h:J6 w (some ⟨g,0,none⟩) is) (c:q.block≠g):J6 (w.setCell q v) (some ⟨g,0,none⟩) is:=by
 rcases h with h | ⟨b,off,h1,h2,k⟩
 · exact .inl h
 have f:b=g:=by injection h1 with h1;injection h1 with h1 _;exact h1.symm
 have a:∀ j,q≠⟨b,j,none⟩:=fun j e=>c (by rw [e];exact f);refine .inr ⟨b,off,h1,by simpa using h2,fun i d=>?_⟩;rw [La _ _ _ _ (a _),La _ _ _ _ (a _)];exact k i d
theorem cmp_neg:∀ (a b:List UInt8),Lib.compareBytes a b<0↔Op.bytesLess a b=true
 | [],[]=>by simp [Lib.compareBytes,Op.bytesLess]
 | [],_::_=>by simp [Lib.compareBytes,Op.bytesLess]
 | _::_,[]=>by simp [Lib.compareBytes,Op.bytesLess]
 | x::a,y::b=>by
  have d:=cmp_neg a b;simp only [Lib.compareBytes,Op.bytesLess];by_cases h1:x<y
  · simp [h1]
  by_cases h2:y<x
  · have c:¬ x=y:=fun e=>by subst e;exact gJ x h2
    simp [h1,h2,c]
  have c:=UInt8.le_antisymm (JE.1 h2) (JE.1 h1);subst c;simp [h1,d]
theorem rH:∀ (a b:List UInt8),Lib.compareBytes a b=0↔a=b
 | [],[]=>by simp [Lib.compareBytes]
 | [],_::_=>by simp [Lib.compareBytes]
 | _::_,[]=>by simp [Lib.compareBytes]
 | x::a,y::b=>by
  have d:=rH a b;simp only [Lib.compareBytes];by_cases h1:x<y
  · have c:¬ x=y:=fun e=>by subst e;exact gJ x h1
    simp [h1,c]
  by_cases h2:y<x
  · have c:¬ x=y:=fun e=>by subst e;exact gJ x h2
    simp [h1,h2,c]
  have c:=UInt8.le_antisymm (JE.1 h2) (JE.1 h1);subst c;simp [h1,d]
def lt (a b:BY):Bool:=Op.bytesLess a.toList b.toList
def Kw (a b:BY):Int:=Lib.compareBytes a.data.toList b.data.toList
theorem Po (a b:BY):Kw a b<0↔lt a b=true:=by
 unfold Kw lt;rw [cmp_neg,ByteArray.toList_eq,ByteArray.toList_eq]
theorem Ju (a b:BY):Kw a b=0↔a=b:=by
 unfold Kw;rw [rH];exact ⟨fun h=>qg (Rl.1 h),fun h=>by rw [h]⟩
theorem a0L (a b:BY) (w:World):
 Calls prog 190 #[.string a,.string b] w fun e w'=>e=.returned (.int .i64 (Kw a b))/\w'=w:=by
 have hrun:∀ u:World,(callFunc 235 #[vS a,vS b]).run prog u=.ok (.value (vI (Kw a b))) u:=fun u=>by
  rw [run_callFunc_extern func235 J3 J3 J3 (e:=Extern.BytealgCompare.compare) J3,Lib.run_compareString];rfl
 go_enter func190,ntmps190;go_wp2;go_ret;exact ⟨rfl,rfl⟩
theorem c130 (a b:BY) (w:World):
 Calls prog 130 #[.string a,.string b] w fun e w'=>e=.returned (.int .i64 (Kw a b))/\w'=w:=by
 go_enter func130,ntmps130
 go_wp2_with fail
 refine (a0L a b _).mono ?_;rintro e w1 ⟨rfl,hw⟩;obtain rfl:=hw.symm;go_wp2;go_ret;exact ⟨rfl,rfl⟩
theorem c196 (x:F2) (b:BY) (w:World):
 Calls prog 196 #[.agg #[.string x.nm,.string x.tx],.string b] w fun e w'=>e=.returned (.int .i64 (Kw x.nm b))/\Bw w w':=by
 go_enter func196,ntmps196
 go_wp2_with fail
 refine (c130 x.nm b _).mono ?_;rintro e w1 ⟨rfl,hw⟩;obtain rfl:=hw.symm;go_wp2;go_ret;exact ⟨rfl,o7⟩
theorem Jq:∀ (a b c:List UInt8),Op.bytesLess a b=true->Op.bytesLess b c=true->Op.bytesLess a c=true
 | _,[],_,h,_=>by simp [Op.bytesLess] at h
 | _,_::_,[],_,h=>by simp [Op.bytesLess] at h
 | [],_::_,_::_,_,_=>by simp [Op.bytesLess]
 | x::a,y::b,z::c,h,k=>by
  have d:=Jq a b c;simp only [Op.bytesLess,iI,Fa,Fe,Zn] at h k ⊢;rcases h with h | ⟨rfl,h⟩
  · rcases k with k | ⟨rfl,k⟩
    · exact .inl (UInt8.lt_trans h k)
    exact .inl h
  rcases k with k | ⟨rfl,k⟩
  · exact .inl k
  exact .inr ⟨rfl,d h k⟩
theorem Jo:∀ (a:List UInt8),Op.bytesLess a a=false
 | []=>by simp [Op.bytesLess]
 | x::a=>by simp [Op.bytesLess,Jo a]
theorem og {a b c:BY} (h:lt a b=true) (k:lt b c=true):lt a c=true:=Jq _ _ _ h k
theorem Yc (a:BY):lt a a=false:=Jo _
structure Place (fs:List F2) (t:BY) (p:Nat) (f:Bool):Prop where
 le:p<=fs.length
 less:∀ j,j<p->lt (fs.getD j P8).nm t=true
 more:∀ j,p<=j->j<fs.length->lt (fs.getD j P8).nm t=false
 here:f=true↔p<fs.length/\(fs.getD p P8).nm=t
def Asc (fs:List F2):Prop:=∀ i j,i<j->j<fs.length->lt (fs.getD i P8).nm (fs.getD j P8).nm=true
def Half (fs:List F2) (t:BY) (i j:Nat):Prop:=(∀ q,q<i->lt (fs.getD q P8).nm t=true)/\∀ q,j<=q->q<fs.length->lt (fs.getD q P8).nm t=false
theorem JS {fs:List F2} (hm:Asc fs) (a:Half fs t i j) (hl:h<fs.length) (hx:lt (fs.getD h P8).nm t=true):Half fs t (h+1) j:=by
 refine ⟨fun q hq=>?_,a.2⟩;rcases o8 q h with h1 | h1
 · exact og (hm q h h1 hl) hx
 obtain rfl:q=h:=O0;exact hx
theorem YM {fs:List F2} (hm:Asc fs) (a:Half fs t i j) (hx:lt (fs.getD h P8).nm t=false):Half fs t i h:=by
 refine ⟨a.1,fun q hq hl=>?_⟩;rcases o8 h q with h1 | h1
 · cases hc:lt (fs.getD q P8).nm t
   · rfl
   rw [og (hm h q h1 hl) hc] at hx;cases hx
 obtain rfl:q=h:=O0;exact hx
theorem a1p (a:OA) (I:Nat) (fs:List F2) (t:BY) (w:World) (hl:fs.length<=40) (C:J6 w a fs) (hm:Asc fs):
 Calls prog 195 #[.slice a fs.length I,.string t,.func (.func 196) #[] #[]] w fun e w'=>(∃ p f,e=.returned (.tuple #[.int .i64 (p:Nat),.bool f])/\Place fs t p f)/\Bw w w':=by
 obtain ⟨b,off,hc⟩:=h_ C;have E:=U0 hc;have D:=U0 hm;clear hc C hm;go_enter func195,ntmps195
 go_wp2_with fail
 go_loopw [9,10] (fun s r wr=>∃ i j:Nat,i<=j/\j<=fs.length/\s=.int .i64 i/\r=.int .i64 j/\Below w.heap.size w wr/\Hid (Half fs t i j)) (fun s r _=>(intOf r).toNat - (intOf s).toNat)
 case atStart=>exact ⟨0,fs.length,D5 _,Y9 _,rfl,rfl,Z4 _ _,⟨fun q h=>absurd h (o9 _),fun q h k=>O0⟩⟩
 obtain ⟨i,j,hij,B,rfl,rfl,d,g⟩:=hrel;by_cases hlt:i<j;rotate_left
 · obtain rfl:i=j:=O0;by_cases n:i<fs.length;rotate_left
   · have z:Hid (Place fs t i false):=⟨O0,g.out.1,g.out.2,U7⟩;have hd:decide ((i:Int)<(fs.length:Int))=false:=P9 O0;go_wp2
     all_goals go_ret2
     all_goals exact ⟨⟨i,false,rfl,z.out⟩,d⟩
   obtain ⟨ha,l,c⟩:=Nc E.out n;subst ha;have g0:=(d.cell (p:=⟨b,off+i*2,none⟩) l).trans (c i n).1;have g1:=(d.cell (p:=⟨b,off+i*2+1,none⟩) l).trans (c i n).2;have z:Hid (∀ f:Bool,(f=true↔(fs.getD i P8).nm=t)->Place fs t i f):=fun f hf=>⟨O0,g.out.1,g.out.2,hf.trans ⟨fun h=>⟨n,h⟩,fun h=>h.2⟩⟩;generalize fs.getD i P8=x at*;clear c
   go_wp2_with fail
   refine (c196 x t wr).mono ?_;rintro e F ⟨rfl,m⟩;have o:=G7 d m;go_wp2
   all_goals go_ret2
   all_goals exact ⟨⟨i,_,rfl,z.out _ (by rw [<- Ju];simp)⟩,o⟩
 rcases E.out with H | ⟨ha,l,c⟩
 · rw [H] at B;simp at B;omega
 subst ha;have v:(i+j) / 2<fs.length:=O0;have g0:=(d.cell (p:=⟨b,off+(i+j) / 2*2,none⟩) l).trans (c _ v).1;have g1:=(d.cell (p:=⟨b,off+(i+j) / 2*2+1,none⟩) l).trans (c _ v).2;have y:Hid (lt (fs.getD ((i+j) / 2) P8).nm t=true->Half fs t ((i+j) / 2+1) j):=fun hx=>JS D.out g.out v hx;have A:Hid (lt (fs.getD ((i+j) / 2) P8).nm t=false->Half fs t i ((i+j) / 2)):=fun hx=>YM D.out g.out hx;generalize fs.getD ((i+j) / 2) P8=x at*;clear c
 go_wp2_with fail
 refine (c196 x t wr).mono ?_;rintro e F ⟨rfl,m⟩;have o:=G7 d m;cases hx:lt x.nm t
 · have hc:¬ Kw x.nm t<0:=fun h=>by rw [(Po _ _).1 h] at hx;cases hx
   have hc1:=P9 hc;have u:=U0 (A.out hx);clear hx m y A;go_wp2;go_roundw
   case rel=>exact ⟨i,(i+j) / 2,O0,O0,rfl,by go_num,o,u⟩
   case measure=>simp [intOf];omega
 have hc:=(Po _ _).2 hx;have u:=U0 (y.out hx);clear hx m y A;go_wp2;go_roundw
 case rel=>exact ⟨(i+j) / 2+1,j,O0,O0,by go_num,rfl,o,u⟩
 case measure=>simp [intOf];omega
theorem EU (a:OA) (b:Nat) (fs:List F2) (t:BY) (w:World) (hl:fs.length<=40) (d:J6 w a fs) (hm:Asc fs):
 Calls prog 136 #[.agg #[.slice a fs.length b],.string t] w fun e w'=>(∃ p f,e=.returned (.tuple #[.int .i64 (p:Nat),.bool f])/\Place fs t p f)/\Bw w w':=by
 have k:=U0 d;have j:=U0 hm;have g:Bw w (w.alloc (.cells #[vL a fs.length b] 41)):=o7;clear d hm;go_enter func136,ntmps136
 go_wp2_with fail
 refine (a1p a b fs t _ hl (U5 k.out g) j.out).mono ?_;rintro e w1 ⟨⟨p,f,rfl,c⟩,h⟩;have i:=U0 c;clear c;go_wp2;go_ret2;exact ⟨⟨p,f,rfl,i.out⟩,G7 g h⟩
theorem ji {fs:List F2} (h:J_ fs):Asc fs:=by
 have b:∀ j,j+1<fs.length->lt (fs.getD j P8).nm (fs.getD (j+1) P8).nm=true:=fun j a=>by
  have:=h.2 (j+1) a;unfold Ie at this;simp only [Fa,iI,Fe] at this;rcases this.2 with h | h
  · omega
  exact h
 intro i j hij
 induction j with
 | zero=>omega
 | succ j ih=>
  intro a;rcases o8 i j with h1 | h1
  · exact og (ih h1 O0) (b j a)
  obtain rfl:i=j:=O0;exact b i a
theorem vX (a:OA) (m:Nat) (fs:List F2) (nm:BY) (w:World) (hl:fs.length<=1048576) (l:J6 w a fs):
 Calls prog 158 #[.agg #[.slice a fs.length m],.string nm] w fun e w'=>(∃ r:Int,e=.returned (.int .i64 r)/\((r=-1/\∀ i,i<fs.length->(fs.getD i P8).nm≠nm)\/∃ i:Nat,r=i/\i<fs.length/\(fs.getD i P8).nm=nm))/\Bw w w':=by
 obtain ⟨b,off,hc⟩:=h_ l;have u:=U0 hc;have d:Bw w (w.alloc (.cells #[vL a fs.length m] 41)):=o7;clear hc l;go_enter func158,ntmps158
 go_wp2_with fail
 go_loop [5] (fun i=>∃ k:Nat,k<=fs.length/\i=.int .i64 k/\Hid (∀ j,j<k->(fs.getD j P8).nm≠nm)) (fun i=>fs.length - (intOf i).toNat)
 case atStart=>exact ⟨0,D5 _,rfl,fun j h=>absurd h (o9 _)⟩
 obtain ⟨k,hk,rfl,f⟩:=hrel;by_cases c:k<fs.length;rotate_left
 · go_wp2;go_ret;exact ⟨⟨-1,rfl,.inl ⟨rfl,fun i hi=>f.out i O0⟩⟩,d⟩
 obtain ⟨ha,s,g⟩:=Nc u.out c;subst ha;have g0:=(d.cell (p:=⟨b,off+k*2,none⟩) s).trans (g k c).1;have o:Hid (∃ x,x=fs.getD k P8):=⟨_,rfl⟩;obtain ⟨x,hx⟩:=o.out;rw [<- hx] at g0;have n:=U0 hx;clear g hx o;cases hq:(x.nm.toList==nm.toList)
 · have q:Hid (∀ j,j<k+1->(fs.getD j P8).nm≠nm):=fun j hj=>by
    rcases o8 j k with h | h
    · exact f.out j h
    obtain rfl:j=k:=O0;rw [<- n.out];intro e;rw [e] at hq;simp at hq
   go_wp2
   go_round
   case rel=>exact ⟨k+1,O0,by go_num,q⟩
   case measure=>simp [intOf];omega
 have he:x.nm=nm:=by
  have:=Zn.1 hq;rw [ByteArray.toList_eq,ByteArray.toList_eq] at this;exact qg (Rl.1 this)
 have t:Hid (∃ i:Nat,(k:Int)=i/\i<fs.length/\(fs.getD i P8).nm=nm):=⟨k,rfl,c,by rw [<- n.out];exact he⟩;clear he;go_wp2;go_ret;exact ⟨⟨_,rfl,.inr t.out⟩,d⟩
