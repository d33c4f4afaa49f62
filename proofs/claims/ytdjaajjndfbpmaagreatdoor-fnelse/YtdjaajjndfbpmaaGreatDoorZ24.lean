import Derived.Test.YtdjaajjndfbpmaaGreatDoorT5
import Derived.Test.YtdjaajjndfbpmaaGreatDoorZ07
set_option linter.unusedVariables false
set_option maxHeartbeats 8000000
set_option maxRecDepth 100000
set_option linter.unusedSimpArgs false
namespace Go.Proofs.YtdjaajjndfbpmaaGreatDoor
open Go.RowKit
theorem Zw (l:List UInt8):l.all n_=true->∀ k,val (l.take k)<=val l:=by
 refine ul (P:=fun l=>l.all n_=true->∀ k,val (l.take k)<=val l) (by simp [val]) (fun l c a h k=>?_) l;rw [Vi] at h;simp only [ni,List.all_nil,Bool.and_true,V7] at h;by_cases b:k<=l.length
 · rw [Sz b,Ja]
   have:=a h.1 k;have h0:=Vk l h.1;have hc:=(jb c).1 h.2;omega
 rw [E_ J4];exact Int.le_refl _
theorem UD (n:Int) (h:0<=n) (h1:n<=100000000):IntKind.i64.wrap (n.tdiv 10)=n / 10:=by
 rw [bv h];simp [IntKind.wrap,IntKind.signed,IntKind.bits];omega
end Go.Proofs.YtdjaajjndfbpmaaGreatDoor
namespace Go.Proofs
open Go.Shelf
def Tryz.Ry:Go.Shelf.Ren:=⟨fun | 137=>192 | 217=>186 | 266=>198 | n=>n,fun | 9=>9 | 5=>5 | 3=>3 | n=>n,fun | n=>n⟩
theorem Tryz.TH:Go.Proofs.Lays.n137 Tryz.prog Tryz.Ry:={
 mixed:=U2
 f137:=Tryz.func192.trans (V3 some U2)
 f217:=Tryz.func186.trans (V3 some U2)
 f266:=Tryz.func198.trans (V3 some U2)
 t3:=Tryz.underlying3
 a3:=Tryz.isAgg3
 z3:=Tryz.sizeOf3
 v3:=Tryz.zeroValue3
 t5:=Tryz.underlying5
 a5:=Tryz.isAgg5
 z5:=Tryz.sizeOf5
 v5:=Tryz.zeroValue5
 t9:=Tryz.underlying9
 a9:=Tryz.isAgg9
 z9:=Tryz.sizeOf9
 v9:=Tryz.zeroValue9 }
theorem Tryz.strings_IndexByte (s:ByteArray) (c:Int) (w:World):
 Calls Tryz.prog 192 #[.string s,.int .u8 c] w fun e w'=>e=.returned (.int .i64 (Lib.indexByte s.data.toList c.toNat.toUInt8))/\w'=w:=Any.strings_IndexByte Tryz.TH s c w
def Tryz.Ux:Go.Shelf.Ren:=⟨fun | 145=>128 | 220=>154 | 219=>168 | 217=>186 | 225=>187 | 224=>188 | 267=>189 | 266=>198 | 314=>199 | n=>n,fun | 9=>9 | 4=>4 | 59=>194 | 3=>3 | 5=>5 | 46=>139 | 146=>276 | 51=>182 | n=>n,fun | 1=>1 | n=>n⟩
theorem Tryz.BI:Go.Proofs.Lays.n145 Tryz.prog Tryz.Ux:={
 mixed:=U2
 f145:=Tryz.func128.trans (V3 some U2)
 f217:=Tryz.func186.trans (V3 some U2)
 f219:=Tryz.func168.trans (V3 some U2)
 f220:=Tryz.func154.trans (V3 some U2)
 f224:=Tryz.func188.trans (V3 some U2)
 f225:=Tryz.func187.trans (V3 some U2)
 f266:=Tryz.func198.trans (V3 some U2)
 f267:=Tryz.func189.trans (V3 some U2)
 f314:=Tryz.func199.trans (V3 some U2)
 t3:=Tryz.underlying3
 a3:=Tryz.isAgg3
 z3:=Tryz.sizeOf3
 v3:=Tryz.zeroValue3
 t4:=Tryz.underlying4
 a4:=Tryz.isAgg4
 z4:=Tryz.sizeOf4
 v4:=Tryz.zeroValue4
 t5:=Tryz.underlying5
 a5:=Tryz.isAgg5
 z5:=Tryz.sizeOf5
 v5:=Tryz.zeroValue5
 t9:=Tryz.underlying9
 a9:=Tryz.isAgg9
 z9:=Tryz.sizeOf9
 v9:=Tryz.zeroValue9
 t46:=Tryz.underlying139
 a46:=Tryz.isAgg139
 z46:=Tryz.sizeOf139
 v46:=Tryz.zeroValue139
 t51:=Tryz.underlying182
 a51:=Tryz.isAgg182
 z51:=Tryz.sizeOf182
 v51:=Tryz.zeroValue182
 t59:=Tryz.underlying194
 a59:=Tryz.isAgg194
 z59:=Tryz.sizeOf194
 v59:=Tryz.zeroValue194
 t146:=Tryz.underlying276
 a146:=Tryz.isAgg276
 z146:=Tryz.sizeOf276
 v146:=Tryz.zeroValue276
 g1:=by kernel_rfl }
theorem Tryz.strings_Cut (s a:ByteArray) (m:Int) (w:World) (b:s.size<4294967281) (c:w.cell? ⟨1,0,none⟩=some (.int .i64 m)):
 Calls Tryz.prog 128 #[.string s,.string a] w fun e w'=>e=.returned (.tuple #[.string ⟨(Lib.cut s.data.toList a.data.toList).1.toArray⟩,.string ⟨(Lib.cut s.data.toList a.data.toList).2.1.toArray⟩,.bool (Lib.cut s.data.toList a.data.toList).2.2])/\∃ n,w'=w.drewN n:=Any.strings_Cut Tryz.BI s a m w b c
def Tryz.Ay:Go.Shelf.Ren:=⟨fun | 147=>155 | 221=>169 | 268=>190 | 138=>127 | 143=>153 | 195=>151 | 197=>200 | 218=>152 | 219=>168 | 260=>204 | 217=>186 | 225=>187 | 224=>188 | 267=>189 | 266=>198 | 314=>199 | n=>n,fun | 9=>9 | 3=>3 | 31=>79 | 4=>4 | 0=>0 | 105=>278 | 21=>21 | 5=>5 | 46=>139 | 119=>287 | 139=>290 | 138=>289 | 146=>276 | 51=>182 | n=>n,fun | 1=>1 | 3=>10 | 4=>11 | n=>n⟩
theorem Tryz.yI:Go.Proofs.Lays.n147 Tryz.prog Tryz.Ay:={
 mixed:=U2
 f138:=Tryz.func127.trans (V3 some U2)
 f143:=Tryz.func153.trans (V3 some U2)
 f147:=Tryz.func155.trans (V3 some U2)
 f195:=Tryz.func151.trans (V3 some U2)
 f197:=Tryz.func200.trans (V3 some U2)
 f217:=Tryz.func186.trans (V3 some U2)
 f218:=Tryz.func152.trans (V3 some U2)
 f219:=Tryz.func168.trans (V3 some U2)
 f221:=Tryz.func169.trans (V3 some U2)
 f224:=Tryz.func188.trans (V3 some U2)
 f225:=Tryz.func187.trans (V3 some U2)
 f260:=Tryz.func204.trans (V3 some U2)
 f266:=Tryz.func198.trans (V3 some U2)
 f267:=Tryz.func189.trans (V3 some U2)
 f268:=Tryz.func190.trans (V3 some U2)
 f314:=Tryz.func199.trans (V3 some U2)
 t0:=Tryz.underlying0
 a0:=Tryz.isAgg0
 z0:=Tryz.sizeOf0
 v0:=Tryz.zeroValue0
 t3:=Tryz.underlying3
 a3:=Tryz.isAgg3
 z3:=Tryz.sizeOf3
 v3:=Tryz.zeroValue3
 t4:=Tryz.underlying4
 a4:=Tryz.isAgg4
 z4:=Tryz.sizeOf4
 v4:=Tryz.zeroValue4
 t5:=Tryz.underlying5
 a5:=Tryz.isAgg5
 z5:=Tryz.sizeOf5
 v5:=Tryz.zeroValue5
 t9:=Tryz.underlying9
 a9:=Tryz.isAgg9
 z9:=Tryz.sizeOf9
 v9:=Tryz.zeroValue9
 t21:=Tryz.underlying21
 a21:=Tryz.isAgg21
 z21:=Tryz.sizeOf21
 v21:=Tryz.zeroValue21
 t31:=Tryz.underlying79
 a31:=Tryz.isAgg79
 z31:=Tryz.sizeOf79
 v31:=Tryz.zeroValue79
 t46:=Tryz.underlying139
 a46:=Tryz.isAgg139
 z46:=Tryz.sizeOf139
 v46:=Tryz.zeroValue139
 t51:=Tryz.underlying182
 a51:=Tryz.isAgg182
 z51:=Tryz.sizeOf182
 v51:=Tryz.zeroValue182
 t105:=Tryz.underlying278
 a105:=Tryz.isAgg278
 z105:=Tryz.sizeOf278
 v105:=Tryz.zeroValue278
 t119:=Tryz.underlying287
 a119:=Tryz.isAgg287
 z119:=Tryz.sizeOf287
 t138:=Tryz.underlying289
 a138:=Tryz.isAgg289
 z138:=Tryz.sizeOf289
 v138:=Tryz.zeroValue289
 t139:=Tryz.underlying290
 a139:=Tryz.isAgg290
 z139:=Tryz.sizeOf290
 v139:=Tryz.zeroValue290
 t146:=Tryz.underlying276
 a146:=Tryz.isAgg276
 z146:=Tryz.sizeOf276
 v146:=Tryz.zeroValue276
 g1:=U2
 g3:=U2
 g4:=by kernel_rfl }
theorem Tryz.strings_SplitN (s a:ByteArray) (n:Nat) (m:Int) (w:World) (b:s.size<4294967281) (f:w.cell? ⟨1,0,none⟩=some (.int .i64 m)) (h1:1<=a.size) (d:1<=n) (c:n<=9223372036854775807):
 Calls Tryz.prog 155 #[.string s,.string a,.int .i64 n] w fun e w'=>
  e=.returned (.slice (some ⟨w.heap.size,0,none⟩) (Lib.splitB a 0 (min n (s.size+1) - 1) s).length (min n (s.size+1)))/\w'=w.alloc (.cells (Lib.cellsOf (Lib.splitB a 0 (min n (s.size+1) - 1) s) (min n (s.size+1))) 9):=Any.strings_SplitN Tryz.yI U2 s a n m w b f h1 d c
def Tryz.Vx:Go.Shelf.Ren:=⟨fun | 146=>196 | 221=>169 | 268=>190 | 138=>127 | 143=>153 | 195=>151 | 197=>200 | 218=>152 | 219=>168 | 260=>204 | 217=>186 | 225=>187 | 224=>188 | 267=>189 | 266=>198 | 314=>199 | n=>n,fun | 9=>9 | 31=>79 | 3=>3 | 4=>4 | 0=>0 | 105=>278 | 21=>21 | 5=>5 | 46=>139 | 119=>287 | 139=>290 | 138=>289 | 146=>276 | 51=>182 | n=>n,fun | 1=>1 | 3=>10 | 4=>11 | n=>n⟩
theorem Tryz.lI:Go.Proofs.Lays.n146 Tryz.prog Tryz.Vx:={
 mixed:=U2
 f138:=Tryz.func127.trans (V3 some U2)
 f143:=Tryz.func153.trans (V3 some U2)
 f146:=Tryz.func196.trans (V3 some U2)
 f195:=Tryz.func151.trans (V3 some U2)
 f197:=Tryz.func200.trans (V3 some U2)
 f217:=Tryz.func186.trans (V3 some U2)
 f218:=Tryz.func152.trans (V3 some U2)
 f219:=Tryz.func168.trans (V3 some U2)
 f221:=Tryz.func169.trans (V3 some U2)
 f224:=Tryz.func188.trans (V3 some U2)
 f225:=Tryz.func187.trans (V3 some U2)
 f260:=Tryz.func204.trans (V3 some U2)
 f266:=Tryz.func198.trans (V3 some U2)
 f267:=Tryz.func189.trans (V3 some U2)
 f268:=Tryz.func190.trans (V3 some U2)
 f314:=Tryz.func199.trans (V3 some U2)
 t0:=Tryz.underlying0
 a0:=Tryz.isAgg0
 z0:=Tryz.sizeOf0
 v0:=Tryz.zeroValue0
 t3:=Tryz.underlying3
 a3:=Tryz.isAgg3
 z3:=Tryz.sizeOf3
 v3:=Tryz.zeroValue3
 t4:=Tryz.underlying4
 a4:=Tryz.isAgg4
 z4:=Tryz.sizeOf4
 v4:=Tryz.zeroValue4
 t5:=Tryz.underlying5
 a5:=Tryz.isAgg5
 z5:=Tryz.sizeOf5
 v5:=Tryz.zeroValue5
 t9:=Tryz.underlying9
 a9:=Tryz.isAgg9
 z9:=Tryz.sizeOf9
 v9:=Tryz.zeroValue9
 t21:=Tryz.underlying21
 a21:=Tryz.isAgg21
 z21:=Tryz.sizeOf21
 v21:=Tryz.zeroValue21
 t31:=Tryz.underlying79
 a31:=Tryz.isAgg79
 z31:=Tryz.sizeOf79
 v31:=Tryz.zeroValue79
 t46:=Tryz.underlying139
 a46:=Tryz.isAgg139
 z46:=Tryz.sizeOf139
 v46:=Tryz.zeroValue139
 t51:=Tryz.underlying182
 a51:=Tryz.isAgg182
 z51:=Tryz.sizeOf182
 v51:=Tryz.zeroValue182
 t105:=Tryz.underlying278
 a105:=Tryz.isAgg278
 z105:=Tryz.sizeOf278
 v105:=Tryz.zeroValue278
 t119:=Tryz.underlying287
 a119:=Tryz.isAgg287
 z119:=Tryz.sizeOf287
 t138:=Tryz.underlying289
 a138:=Tryz.isAgg289
 z138:=Tryz.sizeOf289
 v138:=Tryz.zeroValue289
 t139:=Tryz.underlying290
 a139:=Tryz.isAgg290
 z139:=Tryz.sizeOf290
 v139:=Tryz.zeroValue290
 t146:=Tryz.underlying276
 a146:=Tryz.isAgg276
 z146:=Tryz.sizeOf276
 v146:=Tryz.zeroValue276
 g1:=U2
 g3:=U2
 g4:=by kernel_rfl }
theorem Tryz.strings_Split (s a:ByteArray) (m:Int) (w:World) (b:s.size<4294967281) (c:w.cell? ⟨1,0,none⟩=some (.int .i64 m)) (h1:1<=a.size):
 Calls Tryz.prog 196 #[.string s,.string a] w fun e w'=>
  e=.returned (.slice (some ⟨w.heap.size,0,none⟩) (Lib.countB s a+1) (Lib.countB s a+1))/\w'=w.alloc (.cells ((Lib.splitB a 0 (Lib.countB s a) s).map Value.string).toArray 9):=Any.strings_Split Tryz.lI U2 s a m w b c h1
end Go.Proofs
namespace Go.Proofs.YtdjaajjndfbpmaaGreatDoor.G
open Proofs.Tryz
open Go.RowKit
theorem c157 (x:M3) (w:World) (b:x.le 1048700):
 Calls prog 157 #[.agg #[.string x.nm,.string x.tl,.string x.ar]] w fun e w'=>e=.returned (.bool (W_ x))/\Below w.heap.size w w':=by
 have a:Hid (W_ x=(J2 x.nm.data.toList&&J2 x.tl.data.toList&&decide ((x.ar.size:Int)<=300))):=rfl;obtain ⟨h1,h2,h3⟩:=b;go_enter func157,ntmps157
 go_wp2_with fail
 refine (c19 _ _ h1).mono ?_;rintro e w1 ⟨rfl,rfl⟩;cases hn:J2 x.nm.data.toList
 · rw [hn] at a
   go_wp2
   all_goals go_ret
   all_goals exact ⟨Y4 (by rw [a.out];simp),bA⟩
 rw [hn] at a
 go_wp2_with fail
 refine (c19 _ _ h2).mono ?_;rintro e w1 ⟨rfl,rfl⟩;cases hm:J2 x.tl.data.toList
 all_goals
  rw [hm] at a;go_wp2
  all_goals go_ret
  all_goals exact ⟨Y4 (by rw [a.out];simp),bA⟩
theorem OJ {x:M3} {v:Bool} (hv:W_ x=v) (w:World) (a:x.le 1048700):
 Calls prog 157 #[.agg #[.string x.nm,.string x.tl,.string x.ar]] w fun e w'=>e=.returned (.bool v)/\Below w.heap.size w w':=hv▸c157 x w a
theorem TF (s:ByteArray) (w:World) (a:s.size<=1048700):
 Calls prog 99 #[.string s] w fun e w'=>e=.returned (.string (Q3 (V4 s.data.toList)))/\Below w.heap.size w w':=YP s w a
def Me (x:M3):List UInt8:=x.nm.data.toList++[32]++x.tl.data.toList++[32]++V4 x.ar.data.toList
def O8 (x:M3):List UInt8:=[109,97,107,101,32]++Me x++[10]
theorem Ug {w:World} {base:Nat} {e:TypeId} {size:Nat} {v:Value} {n:Nat} {xs:List Value} (h:w.ownsRow base e size v n xs) (hn:0<n):∃ g a,v=.slice (some ⟨g,0,none⟩) n a:=by
 rcases h.2 with ⟨_,h0⟩ | ⟨g,cap,cur,hv,_⟩
 · omega
 exact ⟨g,cap,hv⟩
theorem T9 (s:ByteArray) (a b:Nat):(s.extract a b).data.toList=(s.data.toList.take b).drop a:=by
 rw [Vz,TA,Oz,Cr]
def Ka (l:List UInt8):Nat->List UInt8
 | 0=>l
 | k+1=>I1 (Ka l k)
def qg (l:List UInt8) (k:Nat):List (List UInt8):=(List.range k).map fun j=>O1 (Ka l j)
theorem Ko (l:List UInt8) (k:Nat):qg l (k+1)=qg l k++[O1 (Ka l k)]:=by simp [qg,List.range_succ]
theorem p_ (l:List UInt8):(O1 l).length<=l.length/\(I1 l).length<=l.length:=by
 unfold O1 I1;refine ⟨(Az _).length_le,?_⟩;have:=(List.dropWhile_sublist (l:=l) (· !=32)).length_le;simp only [Yn];omega
theorem Fj (l:List UInt8) (k:Nat):(Ka l k).length<=l.length:=by
 induction k with
 | zero=>exact Q6 _
 | succ k ih=>exact Z4 (p_ _).2 ih
theorem bP (s:ByteArray) (w:World) (hs:s.size<=1048700):
 Calls prog 71 #[.string s,.int .i64 3] w fun e w'=>(∃ g A,e=.returned (.tuple #[.slice (some ⟨g,0,none⟩) 3 A,.string (Q3 (Ka s.data.toList 3))])/\w.heap.size<=g/\K7 w' g (qg s.data.toList 3))/\Below w.heap.size w w':=by
 obtain ⟨D,J,H,F,E⟩:=Ze uB;have hlen:s.data.toList.length=s.size:=X0;go_enter func71,ntmps71
 go_wp2_with fail
 go_loopw [0,6,7] (fun N v i wr=>∃ (m:Nat) (t:ByteArray) (ss:List (List UInt8)),m<=3/\i=.int .i64 m/\N=.string t/\wr.ownsRow w.heap.size 9 1 v m (Ll ss)/\Hid (t=Q3 (Ka s.data.toList m)/\ss=qg s.data.toList m)/\Below w.heap.size w wr/\w.heap.size+1<=wr.heap.size) (fun _ _ i _=>3 - (intOf i).toNat)
 case atStart=>exact ⟨0,s,[],I5 _,rfl,rfl,Om _ #[] 0 P9 (I5 _) rfl,⟨rfl,rfl⟩,bA,X0⟩
 obtain ⟨m,t,ss,hm,rfl,rfl,a,hrel,o,hz⟩:=hrel;by_cases hlt:m<3;rotate_left
 · obtain rfl:m=3:=O0
   obtain ⟨rfl,rfl⟩:=hrel.out;clear hrel;obtain ⟨g,A,O⟩:=Ug a O0;subst O;go_wp2;go_ret2;exact ⟨⟨g,A,rfl,(a.lt g rfl).1,je a rfl⟩,o⟩
 obtain ⟨y,rfl⟩:=hrel.out;have hts:t.size<=1048700:=by rw [y,J3];have:=Fj s.data.toList m;omega
 have K:t.data.toList=Ka s.data.toList m:=by rw [y];simp [Q3]
 have p:=Q0 K;have a3v:t.data.toList.length=t.size:=X0;clear y K;clear hrel
 go_wp2_with fail
 go_loop [8] (fun n=>∃ k:Nat,k<=t.size/\n=.int .i64 k/\Hid ((t.data.toList.take k).all (· !=32)=true)) (fun n=>t.size - (intOf n).toNat)
 case atStart=>exact ⟨0,I5 _,rfl,rfl⟩
 obtain ⟨k,hk,rfl,x⟩:=hrel;by_cases I:k<t.size;rotate_left
 · obtain ⟨d,c⟩:=Kh (l:=t.data.toList) x.out O0 (.inl O0)
   have B:Hid (t.extract 0 k=Q3 (O1 t.data.toList)):=v_ (by rw [T9,d];rfl);have C:Hid (t.extract k t.size=Q3 (I1 t.data.toList)):=v_ (by rw [T9,c,E_ O0,Wj O0,Wj O0]);clear d c
   go_wp2_with (at_builtin;refine wpList_append_own _ rfl _ _ 79 rfl w.heap.size 9 D (.string ⟨#[]⟩) 1 16 underlying79 J H F E rfl K3 _ _ _ rfl (a.alloc _) ⟨wr.heap.size,0,none⟩ 1 1 [_] rfl rfl (cell_one_new _ _ _) (by intro u f;simp at f;subst f;rfl) (by unfold maxLen;omega) O0 J4 ?_;intro v' L q h _)
   go_roundw
   case rel=>
    have z:=(o.alloc o.size _).grown h J4 (fun j r=>(a.lt j r).1);refine ⟨m+1,_,qg s.data.toList (m+1),O0,by go_num,rfl,?_,⟨by rw [C.out,p.out];rfl,rfl⟩,z,by have:=h.size;simp at this;omega⟩;rw [Ko,Df,<- p.out,<- B.out];exact q
   case measure=>simp [intOf];omega
 have a2l:(k:Int)<(t.size:Int):=O0;by_cases b:t[k]=32
 · have P:((t[k].toNat:Int) !=32)=false:=by rw [b];rfl
   obtain ⟨d,c⟩:=Kh (l:=t.data.toList) x.out O0 (.inr (by simp [I];exact b));have B:Hid (t.extract 0 k=Q3 (O1 t.data.toList)):=v_ (by rw [T9,d];rfl);have C:Hid (t.extract (k+1) t.size=Q3 (I1 t.data.toList)):=v_ (by rw [T9,c,E_ O0]);clear b d c
   go_wp2_with (at_builtin;refine wpList_append_own _ rfl _ _ 79 rfl w.heap.size 9 D (.string ⟨#[]⟩) 1 16 underlying79 J H F E rfl K3 _ _ _ rfl (a.alloc _) ⟨wr.heap.size,0,none⟩ 1 1 [_] rfl rfl (cell_one_new _ _ _) (by intro u f;simp at f;subst f;rfl) (by unfold maxLen;omega) O0 J4 ?_;intro v' L q h _)
   go_roundw
   case rel=>
    have z:=(o.alloc o.size _).grown h J4 (fun j r=>(a.lt j r).1);refine ⟨m+1,_,qg s.data.toList (m+1),O0,by go_num,rfl,?_,⟨by rw [C.out,p.out];rfl,rfl⟩,z,by have:=h.size;simp at this;omega⟩;rw [Ko,Df,<- p.out,<- B.out];exact q
   case measure=>simp [intOf];omega
 have P:((t[k].toNat:Int) !=32)=true:=by
  simp only [vw];intro e;exact b (Hg.1 (by have:t[k].toNat=32:=O0;rw [this];rfl))
 have Q:Hid ((t.data.toList.take (k+1)).all (· !=32)=true):=by
  rw [d_ t k I,Vi,x.out];simp [Hid,b]
 clear b;go_wp2
 go_round
 case rel=>exact ⟨k+1,O0,by go_num,Q⟩
 case measure=>simp [intOf];omega
end Go.Proofs.YtdjaajjndfbpmaaGreatDoor.G
