import Derived.Test.YthjhakdpikdoeaaGreatDoorT5
import Derived.Test.YthjhakdpikdoeaaGreatDoorZ07
set_option linter.unusedVariables false
set_option maxHeartbeats 8000000
set_option maxRecDepth 100000
set_option linter.unusedSimpArgs false
namespace Go.Proofs.YthjhakdpikdoeaaGreatDoor
open Go.RowKit
theorem val_take_le (l:List UInt8):l.all isDig=true->∀ k,val (l.take k)<=val l:=by
 refine snoc_ind (P:=fun l=>l.all isDig=true->∀ k,val (l.take k)<=val l) (by simp [val]) (fun l c ih h k=>?_) l;rw [List.all_append] at h;simp only [List.all_cons,List.all_nil,Bool.and_true,Bool.and_eq_true] at h;by_cases hk:k<=l.length
 · rw [List.take_append_of_le_length hk,val_snoc]
   have:=ih h.1 k;have h0:=val_nonneg l h.1;have hc:=(dig_iff c).1 h.2;omega
 rw [List.take_of_length_le so_];exact Int.le_refl _
theorem div_formB (n:Int) (h:0<=n) (h1:n<=100000000):IntKind.i64.wrap (n.tdiv 10)=n / 10:=by
 rw [Int.tdiv_eq_ediv_of_nonneg h];simp [IntKind.wrap,IntKind.signed,IntKind.bits];omega
end Go.Proofs.YthjhakdpikdoeaaGreatDoor
namespace Go.Proofs
open Go.Shelf
def Tryz.lays137_ren:Go.Shelf.Ren:=⟨fun | 137=>176 | 217=>168 | 266=>181 | n => n, fun | 9=>9 | 5=>5 | 3=>3 | n => n, fun | n=>n⟩
theorem Tryz.lays137:Go.Proofs.Lays.n137 Tryz.prog Tryz.lays137_ren:={
 mixed:=kr_
 f137:=Tryz.func176.trans (congrArg some kr_)
 f217:=Tryz.func168.trans (congrArg some kr_)
 f266:=Tryz.func181.trans (congrArg some kr_)
 t3:=Tryz.underlying3
 a3:=Tryz.isAgg3
 z3:=Tryz.sizeOf3
 v3:=Tryz.zeroValue3
 t5:=Tryz.underlying5
 a5:=Tryz.isAgg5
 z5:=Tryz.sizeOf5
 v5:=Tryz.zeroValue5
 t9:=Tryz.underlying9
 a9:=Tryz.isAgg9
 z9:=Tryz.sizeOf9
 v9:=Tryz.zeroValue9 }
theorem Tryz.strings_IndexByte (s:ByteArray) (c:Int) (w:World):
 Calls Tryz.prog 176 #[.string s,.int .u8 c] w fun e w'=>e=.returned (.int .i64 (Lib.indexByte s.data.toList c.toNat.toUInt8))/\w'=w:=Any.strings_IndexByte Tryz.lays137 s c w
def Tryz.lays145_ren:Go.Shelf.Ren:=⟨fun | 145=>94 | 220=>117 | 219=>150 | 217=>168 | 225=>169 | 224=>170 | 267=>171 | 266=>181 | 314=>182 | n => n, fun | 9=>9 | 4=>4 | 59=>146 | 3=>3 | 5=>5 | 46=>128 | 146=>218 | 51=>217 | n => n, fun | 1=>1 | n=>n⟩
theorem Tryz.lays145:Go.Proofs.Lays.n145 Tryz.prog Tryz.lays145_ren:={
 mixed:=kr_
 f145:=Tryz.func94.trans (congrArg some kr_)
 f217:=Tryz.func168.trans (congrArg some kr_)
 f219:=Tryz.func150.trans (congrArg some kr_)
 f220:=Tryz.func117.trans (congrArg some kr_)
 f224:=Tryz.func170.trans (congrArg some kr_)
 f225:=Tryz.func169.trans (congrArg some kr_)
 f266:=Tryz.func181.trans (congrArg some kr_)
 f267:=Tryz.func171.trans (congrArg some kr_)
 f314:=Tryz.func182.trans (congrArg some kr_)
 t3:=Tryz.underlying3
 a3:=Tryz.isAgg3
 z3:=Tryz.sizeOf3
 v3:=Tryz.zeroValue3
 t4:=Tryz.underlying4
 a4:=Tryz.isAgg4
 z4:=Tryz.sizeOf4
 v4:=Tryz.zeroValue4
 t5:=Tryz.underlying5
 a5:=Tryz.isAgg5
 z5:=Tryz.sizeOf5
 v5:=Tryz.zeroValue5
 t9:=Tryz.underlying9
 a9:=Tryz.isAgg9
 z9:=Tryz.sizeOf9
 v9:=Tryz.zeroValue9
 t46:=Tryz.underlying128
 a46:=Tryz.isAgg128
 z46:=Tryz.sizeOf128
 v46:=Tryz.zeroValue128
 t51:=Tryz.underlying217
 a51:=Tryz.isAgg217
 z51:=Tryz.sizeOf217
 v51:=Tryz.zeroValue217
 t59:=Tryz.underlying146
 a59:=Tryz.isAgg146
 z59:=Tryz.sizeOf146
 v59:=Tryz.zeroValue146
 t146:=Tryz.underlying218
 a146:=Tryz.isAgg218
 z146:=Tryz.sizeOf218
 v146:=Tryz.zeroValue218
 g1:=by kernel_rfl }
theorem Tryz.strings_Cut (s sep:ByteArray) (m:Int) (w:World) (hs:s.size<4294967281) (hm:w.cell? ⟨1,0,none⟩=some (.int .i64 m)):
 Calls Tryz.prog 94 #[.string s,.string sep] w fun e w'=>e=.returned (.tuple #[.string ⟨(Lib.cut s.data.toList sep.data.toList).1.toArray⟩,.string ⟨(Lib.cut s.data.toList sep.data.toList).2.1.toArray⟩,.bool (Lib.cut s.data.toList sep.data.toList).2.2])/\∃ n,w'=w.drewN n:=Any.strings_Cut Tryz.lays145 s sep m w hs hm
def Tryz.lays147_ren:Go.Shelf.Ren:=⟨fun | 147=>119 | 221=>151 | 268=>172 | 138=>173 | 143=>174 | 195=>183 | 197=>184 | 218=>185 | 219=>150 | 260=>192 | 217=>168 | 225=>169 | 224=>170 | 267=>171 | 266=>181 | 314=>182 | n => n, fun | 9=>9 | 3=>3 | 31=>98 | 4=>4 | 0=>0 | 105=>220 | 21=>21 | 5=>5 | 46=>128 | 119=>235 | 139=>238 | 138=>237 | 146=>218 | 51=>217 | n => n, fun | 1=>1 | 3=>3 | 4=>4 | n=>n⟩
theorem Tryz.lays147:Go.Proofs.Lays.n147 Tryz.prog Tryz.lays147_ren:={
 mixed:=kr_
 f138:=Tryz.func173.trans (congrArg some kr_)
 f143:=Tryz.func174.trans (congrArg some kr_)
 f147:=Tryz.func119.trans (congrArg some kr_)
 f195:=Tryz.func183.trans (congrArg some kr_)
 f197:=Tryz.func184.trans (congrArg some kr_)
 f217:=Tryz.func168.trans (congrArg some kr_)
 f218:=Tryz.func185.trans (congrArg some kr_)
 f219:=Tryz.func150.trans (congrArg some kr_)
 f221:=Tryz.func151.trans (congrArg some kr_)
 f224:=Tryz.func170.trans (congrArg some kr_)
 f225:=Tryz.func169.trans (congrArg some kr_)
 f260:=Tryz.func192.trans (congrArg some kr_)
 f266:=Tryz.func181.trans (congrArg some kr_)
 f267:=Tryz.func171.trans (congrArg some kr_)
 f268:=Tryz.func172.trans (congrArg some kr_)
 f314:=Tryz.func182.trans (congrArg some kr_)
 t0:=Tryz.underlying0
 a0:=Tryz.isAgg0
 z0:=Tryz.sizeOf0
 v0:=Tryz.zeroValue0
 t3:=Tryz.underlying3
 a3:=Tryz.isAgg3
 z3:=Tryz.sizeOf3
 v3:=Tryz.zeroValue3
 t4:=Tryz.underlying4
 a4:=Tryz.isAgg4
 z4:=Tryz.sizeOf4
 v4:=Tryz.zeroValue4
 t5:=Tryz.underlying5
 a5:=Tryz.isAgg5
 z5:=Tryz.sizeOf5
 v5:=Tryz.zeroValue5
 t9:=Tryz.underlying9
 a9:=Tryz.isAgg9
 z9:=Tryz.sizeOf9
 v9:=Tryz.zeroValue9
 t21:=Tryz.underlying21
 a21:=Tryz.isAgg21
 z21:=Tryz.sizeOf21
 v21:=Tryz.zeroValue21
 t31:=Tryz.underlying98
 a31:=Tryz.isAgg98
 z31:=Tryz.sizeOf98
 v31:=Tryz.zeroValue98
 t46:=Tryz.underlying128
 a46:=Tryz.isAgg128
 z46:=Tryz.sizeOf128
 v46:=Tryz.zeroValue128
 t51:=Tryz.underlying217
 a51:=Tryz.isAgg217
 z51:=Tryz.sizeOf217
 v51:=Tryz.zeroValue217
 t105:=Tryz.underlying220
 a105:=Tryz.isAgg220
 z105:=Tryz.sizeOf220
 v105:=Tryz.zeroValue220
 t119:=Tryz.underlying235
 a119:=Tryz.isAgg235
 z119:=Tryz.sizeOf235
 t138:=Tryz.underlying237
 a138:=Tryz.isAgg237
 z138:=Tryz.sizeOf237
 v138:=Tryz.zeroValue237
 t139:=Tryz.underlying238
 a139:=Tryz.isAgg238
 z139:=Tryz.sizeOf238
 v139:=Tryz.zeroValue238
 t146:=Tryz.underlying218
 a146:=Tryz.isAgg218
 z146:=Tryz.sizeOf218
 v146:=Tryz.zeroValue218
 g1:=kr_
 g3:=kr_
 g4:=by kernel_rfl }
theorem Tryz.strings_SplitN (s sep:ByteArray) (n:Nat) (m:Int) (w:World) (hs:s.size<4294967281) (hm:w.cell? ⟨1,0,none⟩=some (.int .i64 m)) (h1:1<=sep.size) (hn:1<=n) (hn63:n<=9223372036854775807):
 Calls Tryz.prog 119 #[.string s,.string sep,.int .i64 n] w fun e w'=>
  e=.returned (.slice (some ⟨w.heap.size,0,none⟩) (Lib.splitB sep 0 (min n (s.size+1) - 1) s).length (min n (s.size+1)))/\w'=w.alloc (.cells (Lib.cellsOf (Lib.splitB sep 0 (min n (s.size+1) - 1) s) (min n (s.size+1))) 9):=Any.strings_SplitN Tryz.lays147 kr_ s sep n m w hs hm h1 hn hn63
def Tryz.lays146_ren:Go.Shelf.Ren:=⟨fun | 146=>136 | 221=>151 | 268=>172 | 138=>173 | 143=>174 | 195=>183 | 197=>184 | 218=>185 | 219=>150 | 260=>192 | 217=>168 | 225=>169 | 224=>170 | 267=>171 | 266=>181 | 314=>182 | n => n, fun | 9=>9 | 31=>98 | 3=>3 | 4=>4 | 0=>0 | 105=>220 | 21=>21 | 5=>5 | 46=>128 | 119=>235 | 139=>238 | 138=>237 | 146=>218 | 51=>217 | n => n, fun | 1=>1 | 3=>3 | 4=>4 | n=>n⟩
theorem Tryz.lays146:Go.Proofs.Lays.n146 Tryz.prog Tryz.lays146_ren:={
 mixed:=kr_
 f138:=Tryz.func173.trans (congrArg some kr_)
 f143:=Tryz.func174.trans (congrArg some kr_)
 f146:=Tryz.func136.trans (congrArg some kr_)
 f195:=Tryz.func183.trans (congrArg some kr_)
 f197:=Tryz.func184.trans (congrArg some kr_)
 f217:=Tryz.func168.trans (congrArg some kr_)
 f218:=Tryz.func185.trans (congrArg some kr_)
 f219:=Tryz.func150.trans (congrArg some kr_)
 f221:=Tryz.func151.trans (congrArg some kr_)
 f224:=Tryz.func170.trans (congrArg some kr_)
 f225:=Tryz.func169.trans (congrArg some kr_)
 f260:=Tryz.func192.trans (congrArg some kr_)
 f266:=Tryz.func181.trans (congrArg some kr_)
 f267:=Tryz.func171.trans (congrArg some kr_)
 f268:=Tryz.func172.trans (congrArg some kr_)
 f314:=Tryz.func182.trans (congrArg some kr_)
 t0:=Tryz.underlying0
 a0:=Tryz.isAgg0
 z0:=Tryz.sizeOf0
 v0:=Tryz.zeroValue0
 t3:=Tryz.underlying3
 a3:=Tryz.isAgg3
 z3:=Tryz.sizeOf3
 v3:=Tryz.zeroValue3
 t4:=Tryz.underlying4
 a4:=Tryz.isAgg4
 z4:=Tryz.sizeOf4
 v4:=Tryz.zeroValue4
 t5:=Tryz.underlying5
 a5:=Tryz.isAgg5
 z5:=Tryz.sizeOf5
 v5:=Tryz.zeroValue5
 t9:=Tryz.underlying9
 a9:=Tryz.isAgg9
 z9:=Tryz.sizeOf9
 v9:=Tryz.zeroValue9
 t21:=Tryz.underlying21
 a21:=Tryz.isAgg21
 z21:=Tryz.sizeOf21
 v21:=Tryz.zeroValue21
 t31:=Tryz.underlying98
 a31:=Tryz.isAgg98
 z31:=Tryz.sizeOf98
 v31:=Tryz.zeroValue98
 t46:=Tryz.underlying128
 a46:=Tryz.isAgg128
 z46:=Tryz.sizeOf128
 v46:=Tryz.zeroValue128
 t51:=Tryz.underlying217
 a51:=Tryz.isAgg217
 z51:=Tryz.sizeOf217
 v51:=Tryz.zeroValue217
 t105:=Tryz.underlying220
 a105:=Tryz.isAgg220
 z105:=Tryz.sizeOf220
 v105:=Tryz.zeroValue220
 t119:=Tryz.underlying235
 a119:=Tryz.isAgg235
 z119:=Tryz.sizeOf235
 t138:=Tryz.underlying237
 a138:=Tryz.isAgg237
 z138:=Tryz.sizeOf237
 v138:=Tryz.zeroValue237
 t139:=Tryz.underlying238
 a139:=Tryz.isAgg238
 z139:=Tryz.sizeOf238
 v139:=Tryz.zeroValue238
 t146:=Tryz.underlying218
 a146:=Tryz.isAgg218
 z146:=Tryz.sizeOf218
 v146:=Tryz.zeroValue218
 g1:=kr_
 g3:=kr_
 g4:=by kernel_rfl }
theorem Tryz.strings_Split (s sep:ByteArray) (m:Int) (w:World) (hs:s.size<4294967281) (hm:w.cell? ⟨1,0,none⟩=some (.int .i64 m)) (h1:1<=sep.size):
 Calls Tryz.prog 136 #[.string s,.string sep] w fun e w'=>
  e=.returned (.slice (some ⟨w.heap.size,0,none⟩) (Lib.countB s sep+1) (Lib.countB s sep+1))/\w'=w.alloc (.cells ((Lib.splitB sep 0 (Lib.countB s sep) s).map Value.string).toArray 9):=Any.strings_Split Tryz.lays146 kr_ s sep m w hs hm h1
end Go.Proofs
namespace Go.Proofs.YthjhakdpikdoeaaGreatDoor.G
open Proofs.Tryz
open Go.RowKit
theorem c35 (x:M3) (w:World) (hs:x.le 1048700):
 Calls prog 35 #[.agg #[.string x.nm,.string x.tl,.string x.ar]] w fun e w'=>e=.returned (.bool (okM x))/\Below w.heap.size w w':=by
 have HF:Hid (okM x=(nameOk x.nm.data.toList&&nameOk x.tl.data.toList&&decide ((x.ar.size:Int)<=300))):=rfl;obtain ⟨h1,h2,h3⟩:=hs;go_enter func35,ntmps35
 go_wp2_with fail
 refine (c69 _ _ h1).mono ?_;rintro e w1 ⟨rfl,rfl⟩;cases hn:nameOk x.nm.data.toList
 · rw [hn] at HF
   go_wp2
   all_goals go_ret
   all_goals exact ⟨ret_bool (by rw [HF.out];simp),bA⟩
 rw [hn] at HF
 go_wp2_with fail
 refine (c69 _ _ h2).mono ?_;rintro e w1 ⟨rfl,rfl⟩;cases hm:nameOk x.tl.data.toList
 all_goals
  rw [hm] at HF;go_wp2
  all_goals go_ret
  all_goals exact ⟨ret_bool (by rw [HF.out];simp),bA⟩
theorem c35v {x:M3} {v:Bool} (hv:okM x=v) (w:World) (hs:x.le 1048700):
 Calls prog 35 #[.agg #[.string x.nm,.string x.tl,.string x.ar]] w fun e w'=>e=.returned (.bool v)/\Below w.heap.size w w':=hv▸c35 x w hs
theorem c61' (s:ByteArray) (w:World) (hs:s.size<=1048700):
 Calls prog 61 #[.string s] w fun e w'=>e=.returned (.string (ofL (quoteL s.data.toList)))/\Below w.heap.size w w':=c61 s w hs
def bodyL (x:M3):List UInt8:=x.nm.data.toList++[32]++x.tl.data.toList++[32]++quoteL x.ar.data.toList
def makeL (x:M3):List UInt8:=[109,97,107,101,32]++bodyL x++[10]
theorem own_formF {w:World} {base:Nat} {e:TypeId} {size:Nat} {v:Value} {n:Nat} {xs:List Value} (h:w.ownsRow base e size v n xs) (hn:0<n):∃ g cp,v=.slice (some ⟨g,0,none⟩) n cp:=by
 rcases h.2 with ⟨_,h0⟩ | ⟨g,cap,cur,hv,_⟩
 · omega
 exact ⟨g,cap,hv⟩
theorem ext_listF (s:ByteArray) (a b:Nat):(s.extract a b).data.toList=(s.data.toList.take b).drop a:=by
 rw [ByteArray.data_extract,Array.toList_extract,List.extract_eq_take_drop,List.drop_take]
def restN (l:List UInt8):Nat->List UInt8
 | 0=>l
 | k+1=>restOf (restN l k)
def wordsN (l:List UInt8) (k:Nat):List (List UInt8):=(List.range k).map fun j=>wordOf (restN l j)
theorem wordsN_succ (l:List UInt8) (k:Nat):wordsN l (k+1)=wordsN l k++[wordOf (restN l k)]:=by simp [wordsN,List.range_succ]
theorem rest_small (l:List UInt8):(wordOf l).length<=l.length/\(restOf l).length<=l.length:=by
 unfold wordOf restOf;refine ⟨(List.takeWhile_sublist _).length_le,?_⟩;have:=(List.dropWhile_sublist (l:=l) (· !=32)).length_le;simp only [List.length_drop];omega
theorem restN_len (l:List UInt8) (k:Nat):(restN l k).length<=l.length:=by
 induction k with
 | zero=>exact Nat.le_refl _
 | succ k ih=>exact Nat.le_trans (rest_small _).2 ih
theorem c88w (s:ByteArray) (w:World) (hs:s.size<=1048700):
 Calls prog 88 #[.string s,.int .i64 3] w fun e w'=>(∃ g cp,e=.returned (.tuple #[.slice (some ⟨g,0,none⟩) 3 cp,.string (ofL (restN s.data.toList 3))])/\w.heap.size<=g/\LinesAt w' g (wordsN s.data.toList 3))/\Below w.heap.size w w':=by
 obtain ⟨i0,hi,hz0,hz1,hz2⟩:=info_parts info9;have hlen:s.data.toList.length=s.size:=sm_;go_enter func88,ntmps88
 go_wp2_with fail
 go_loopw [0,6,7] (fun sv v i wr=>∃ (m:Nat) (t:ByteArray) (ss:List (List UInt8)),m<=3/\i=.int .i64 m/\sv=.string t/\wr.ownsRow w.heap.size 9 1 v m (strL ss)/\Hid (t=ofL (restN s.data.toList m)/\ss=wordsN s.data.toList m)/\Below w.heap.size w wr/\w.heap.size+1<=wr.heap.size) (fun _ _ i _=>3 - (intOf i).toNat)
 case atStart=>exact ⟨0,s,[],Nat.zero_le _,rfl,rfl,World.ownsRow_lit _ #[] 0 lr_ (Nat.zero_le _) rfl,⟨rfl,rfl⟩,bA,sm_⟩
 obtain ⟨m,t,ss,hm,rfl,rfl,hown,hrel,hb,hz⟩:=hrel;by_cases hlt:m<3;rotate_left
 · obtain rfl:m=3:=om_
   obtain ⟨rfl,rfl⟩:=hrel.out;clear hrel;obtain ⟨g,cp,hvv⟩:=own_formF hown om_;subst hvv;go_wp2;go_ret2;exact ⟨⟨g,cp,rfl,(hown.lt g rfl).1,lines_of_owns hown rfl⟩,hb⟩
 obtain ⟨hT,rfl⟩:=hrel.out;have hts:t.size<=1048700:=by rw [hT,ofL_size];have:=restN_len s.data.toList m;omega
 have hTl:t.data.toList=restN s.data.toList m:=by rw [hT];simp [ofL]
 have HTL:Hid (t.data.toList=restN s.data.toList m):=hTl;have htlen:t.data.toList.length=t.size:=sm_;clear hT hTl;clear hrel
 go_wp2_with fail
 go_loop [8] (fun n=>∃ k:Nat,k<=t.size/\n=.int .i64 k/\Hid ((t.data.toList.take k).all (· !=32)=true)) (fun n=>t.size - (intOf n).toNat)
 case atStart=>exact ⟨0,Nat.zero_le _,rfl,rfl⟩
 obtain ⟨k,hk,rfl,ha⟩:=hrel;by_cases hkt:k<t.size;rotate_left
 · obtain ⟨hw1,hw2⟩:=word_at (l:=t.data.toList) ha.out om_ (.inl om_)
   have HW:Hid (t.extract 0 k=ofL (wordOf t.data.toList)):=ext_ofL (by rw [ext_listF,hw1];rfl);have HR:Hid (t.extract k t.size=ofL (restOf t.data.toList)):=ext_ofL (by rw [ext_listF,hw2,List.take_of_length_le om_,List.drop_of_length_le om_,List.drop_of_length_le om_]);clear hw1 hw2
   go_wp2_with (at_builtin;refine wpList_append_own _ rfl _ _ 98 rfl w.heap.size 9 i0 (.string ⟨#[]⟩) 1 16 underlying98 hi hz0 hz1 hz2 rfl dc_ _ _ _ rfl (hown.alloc _) ⟨wr.heap.size,0,none⟩ 1 1 [_] rfl rfl (cell_one_new _ _ _) (by intro u hu;simp at hu;subst hu;rfl) (by unfold maxLen;omega) om_ so_ ?_;intro v' w2 hown' hgrow _)
   go_roundw
   case rel=>
    have hB2:Below w.heap.size w w2:=(hb.alloc hb.size _).grown hgrow so_ (fun j hj=>(hown.lt j hj).1);refine ⟨m+1,_,wordsN s.data.toList (m+1),om_,by go_num,rfl,?_,⟨by rw [HR.out,HTL.out];rfl,rfl⟩,hB2,by have:=hgrow.size;simp at this;omega⟩;rw [wordsN_succ,strL_snoc,<- HTL.out,<- HW.out];exact hown'
   case measure=>simp [intOf];omega
 have hkt':(k:Int)<(t.size:Int):=om_;by_cases h32:t[k]=32
 · have e1:((t[k].toNat:Int) !=32)=false:=by rw [h32];rfl
   obtain ⟨hw1,hw2⟩:=word_at (l:=t.data.toList) ha.out om_ (.inr (by simp [hkt];exact h32));have HW:Hid (t.extract 0 k=ofL (wordOf t.data.toList)):=ext_ofL (by rw [ext_listF,hw1];rfl);have HR:Hid (t.extract (k+1) t.size=ofL (restOf t.data.toList)):=ext_ofL (by rw [ext_listF,hw2,List.take_of_length_le om_]);clear h32 hw1 hw2
   go_wp2_with (at_builtin;refine wpList_append_own _ rfl _ _ 98 rfl w.heap.size 9 i0 (.string ⟨#[]⟩) 1 16 underlying98 hi hz0 hz1 hz2 rfl dc_ _ _ _ rfl (hown.alloc _) ⟨wr.heap.size,0,none⟩ 1 1 [_] rfl rfl (cell_one_new _ _ _) (by intro u hu;simp at hu;subst hu;rfl) (by unfold maxLen;omega) om_ so_ ?_;intro v' w2 hown' hgrow _)
   go_roundw
   case rel=>
    have hB2:Below w.heap.size w w2:=(hb.alloc hb.size _).grown hgrow so_ (fun j hj=>(hown.lt j hj).1);refine ⟨m+1,_,wordsN s.data.toList (m+1),om_,by go_num,rfl,?_,⟨by rw [HR.out,HTL.out];rfl,rfl⟩,hB2,by have:=hgrow.size;simp at this;omega⟩;rw [wordsN_succ,strL_snoc,<- HTL.out,<- HW.out];exact hown'
   case measure=>simp [intOf];omega
 have e1:((t[k].toNat:Int) !=32)=true:=by
  simp only [bne_iff_ne];intro e;exact h32 (UInt8.toNat_inj.1 (by have:t[k].toNat=32:=om_;rw [this];rfl))
 have HA:Hid ((t.data.toList.take (k+1)).all (· !=32)=true):=by
  rw [take_snoc t k hkt,List.all_append,ha.out];simp [Hid,h32]
 clear h32;go_wp2
 go_round
 case rel=>exact ⟨k+1,om_,by go_num,HA⟩
 case measure=>simp [intOf];omega
end Go.Proofs.YthjhakdpikdoeaaGreatDoor.G
