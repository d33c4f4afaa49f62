import Derived.WalkKit
import Derived.Laws.BytesArg
import Derived.Shelf.Strings.Split
import Derived.Shelf.Strings.Cut
import Derived.Shelf.Small.Strs
import Derived.Test.YtmalddmgdjkgaaaGreatDoorProg
/-
 The plain mathematics of names and decimals: no program is named here.
-/
namespace Go.Proofs.YtmalddmgdjkgaaaGreatDoor
open Go.RowKit
def isDig (c:UInt8):Bool:=decide (48≤(c.toNat:Int)∧(c.toNat:Int)≤57)
def isGraph (c:UInt8):Bool:=decide (33≤(c.toNat:Int)∧(c.toNat:Int)≤126)
def nameOk (l:List UInt8):Bool:=decide (1≤l.length∧l.length≤20)&&l.all isGraph
def vstep (n:Int) (c:UInt8):Int:=n*10+((c.toNat:Int) - 48)
def val (l:List UInt8):Int:=l.foldl vstep 0
theorem val_snoc (l:List UInt8) (c:UInt8):val (l++[c])=val l*10+((c.toNat:Int) - 48):=by simp [val,vstep]
theorem dig_iff (c:UInt8):isDig c=true↔48≤(c.toNat:Int)∧(c.toNat:Int)≤57:=by simp [isDig]
theorem graph_iff (c:UInt8):isGraph c=true↔33≤(c.toNat:Int)∧(c.toNat:Int)≤126:=by simp [isGraph]
theorem snoc_ind {P:List UInt8→Prop} (h0:P []) (h1:∀ l c,P l→P (l++[c])) (l:List UInt8):P l:=by
 have h:∀ r:List UInt8,P r.reverse:=fun r=>by
  induction r with
  | nil=>exact h0
  | cons c r ih=>rw [List.reverse_cons];exact h1 _ _ ih
 have:=h l.reverse
 rwa [List.reverse_reverse] at this
theorem val_nonneg (l:List UInt8):l.all isDig=true→0≤val l:=by
 refine snoc_ind (P:=fun l=>l.all isDig=true→0≤val l) (by simp [val]) (fun l c ih h=>?_) l
 rw [List.all_append] at h
 simp only [List.all_cons,List.all_nil,Bool.and_true,Bool.and_eq_true] at h
 have:=ih h.1
 have hc:=(dig_iff c).1 h.2
 rw [val_snoc];omega
theorem val_take_le (l:List UInt8):l.all isDig=true→∀ k,val (l.take k)≤val l:=by
 refine snoc_ind (P:=fun l=>l.all isDig=true→∀ k,val (l.take k)≤val l) (by simp [val]) (fun l c ih h k=>?_) l
 rw [List.all_append] at h
 simp only [List.all_cons,List.all_nil,Bool.and_true,Bool.and_eq_true] at h
 by_cases hk:k≤l.length
 · rw [List.take_append_of_le_length hk,val_snoc]
   have:=ih h.1 k
   have h0:=val_nonneg l h.1
   have hc:=(dig_iff c).1 h.2
   omega
 rw [List.take_of_length_le (by simp;omega)];exact Int.le_refl _
def lean1 (l:List UInt8):Bool:=!l.isEmpty&&!(l.headD 0==48&&!(l==[48]))
def num40 (l:List UInt8):Bool:=lean1 l&&l.all isDig&&decide (val l≤40)
def decF:Nat→Int→List UInt8
 | 0,_=>[]
 | f+1,n=>if n<10 then [UInt8.ofNat (48+n).toNat] else decF f (n / 10)++[UInt8.ofNat (48+n % 10).toNat]
def dec (n:Int):List UInt8:=decF (n.toNat+1) n
theorem decF_any (f g:Nat) (n:Int) (h0:0≤n) (hf:n.toNat<f) (hg:n.toNat<g):decF f n=decF g n:=by
 induction f generalizing g n with
 | zero=>omega
 | succ f ih=>
  cases g with
  | zero=>omega
  | succ g=>
   simp only [decF]
   by_cases h:n<10
   · rw [if_pos h,if_pos h]
   rw [if_neg h,if_neg h,ih g (n / 10) (by omega) (by omega) (by omega)]
theorem dec_lt (n:Int) (h:n<10):dec n=[UInt8.ofNat (48+n).toNat]:=by simp [dec,decF,h]
theorem dec_ge (n:Int) (h:10≤n):dec n=dec (n / 10)++[UInt8.ofNat (48+n % 10).toNat]:=by
 unfold dec
 rw [decF,if_neg (by omega),decF_any n.toNat ((n / 10).toNat+1) (n / 10) (by omega) (by omega) (by omega)]
theorem dec_ne (n:Int):dec n≠[]:=by
 by_cases h:n<10
 · rw [dec_lt n h];simp
 rw [dec_ge n (by omega)];simp
theorem ofNat_dig (c:UInt8) (h:isDig c=true):UInt8.ofNat (48+((c.toNat:Int) - 48)).toNat=c:=by
 have:=(dig_iff c).1 h
 rw [show (48+((c.toNat:Int) - 48)).toNat=c.toNat by omega]
 exact UInt8.ofNat_toNat
theorem dec_val (l:List UInt8):l.all isDig=true→lean1 l=true→dec (val l)=l∧(2≤l.length→10≤val l)∧(l.headD 0≠48→1≤val l):=by
 refine snoc_ind (P:=fun l=>l.all isDig=true→lean1 l=true→dec (val l)=l∧(2≤l.length→10≤val l)∧(l.headD 0≠48→1≤val l)) (by simp [lean1]) (fun l c ih h hl=>?_) l
 rw [List.all_append] at h
 simp only [List.all_cons,List.all_nil,Bool.and_true,Bool.and_eq_true] at h
 have hc:=(dig_iff c).1 h.2
 have hd:=ofNat_dig c h.2
 cases l with
 | nil=>
  have e:val ([]++[c])=(c.toNat:Int) - 48:=by rw [val_snoc];simp [val]
  rw [e]
  refine ⟨?_,by simp,?_⟩
  · rw [dec_lt _ (by omega),hd];rfl
  intro h1
  simp at h1
  have:c.toNat≠48:=fun e=>h1 (by rw [← UInt8.toNat_inj];exact e)
  omega
 | cons a r=>
  have ha:a≠48:=by
   intro e
   subst e
   simp [lean1] at hl
  have hl':lean1 (a::r)=true:=by simp [lean1,ha]
  obtain ⟨h1,_,h3⟩:=ih h.1 hl'
  have h4:=h3 (by simpa using ha)
  rw [val_snoc]
  have hdiv:(val (a::r)*10+((c.toNat:Int) - 48)) / 10=val (a::r):=by omega
  have hmod:(val (a::r)*10+((c.toNat:Int) - 48)) % 10=(c.toNat:Int) - 48:=by omega
  refine ⟨?_,fun _=>by omega,fun _=>by omega⟩
  rw [dec_ge _ (by omega),hdiv,hmod,h1,hd]
theorem dec_lean (f:Nat) (n:Int) (h0:0≤n) (hf:n.toNat<f):lean1 (dec n)=true∧(1≤n→(dec n).headD 0≠48):=by
 induction f generalizing n with
 | zero=>omega
 | succ f ih=>
  by_cases h:n<10
  · rw [dec_lt n h]
    obtain rfl | rfl | rfl | rfl | rfl | rfl | rfl | rfl | rfl | rfl:n=0∨n=1∨n=2∨n=3∨n=4∨n=5∨n=6∨n=7∨n=8∨n=9:=by omega
    all_goals decide
  obtain ⟨h1,h2⟩:=ih (n / 10) (by omega) (by omega)
  have h3:=h2 (by omega)
  rw [dec_ge n (by omega)]
  have hne:=dec_ne (n / 10)
  generalize dec (n / 10)=l at*
  cases l with
  | nil=>exact absurd rfl hne
  | cons a r=>
   have ha:a≠48:=by simpa using h3
   exact ⟨by simp [lean1,ha],fun _=>by simpa using ha⟩
theorem val_dig_len (l:List UInt8) (h:l.all isDig=true) (hl:lean1 l=true) (h40:val l≤40):l.length≤2:=by
 rcases Nat.lt_or_ge 2 l.length with h2 | h2
 · exfalso
   rcases List.eq_nil_or_concat l with e | ⟨r,c,e⟩
   · subst e;simp at h2
   rw [List.concat_eq_append] at e
   subst e
   rw [List.all_append] at h
   simp only [List.all_cons,List.all_nil,Bool.and_true,Bool.and_eq_true] at h
   have hr:2≤r.length:=by simp at h2;omega
   cases r with
   | nil=>simp at hr
   | cons a r=>
    have ha:a≠48:=by
     intro e
     subst e
     simp [lean1] at hl
    have:=(dec_val (a::r) h.1 (by simp [lean1,ha])).2.1 hr
    have hc:=(dig_iff c).1 h.2
    rw [val_snoc] at h40
    omega
 exact h2
end Go.Proofs.YtmalddmgdjkgaaaGreatDoor
namespace Go.Proofs.YtmalddmgdjkgaaaGreatDoor
theorem decF_len (f:Nat) (n:Int):(decF f n).length≤f:=by
 induction f generalizing n with
 | zero=>simp [decF]
 | succ f ih=>
  simp only [decF]
  by_cases h:n<10
  · rw [if_pos h];simp
  rw [if_neg h];have:=ih (n / 10);simp;omega
theorem dec_len (n:Int) (h:0≤n) (h1:n≤100000000):(dec n).length≤100000001:=by
 have:=decF_len (n.toNat+1) n
 unfold dec;omega
theorem div_formB (n:Int) (h:0≤n) (h1:n≤100000000):IntKind.i64.wrap (n.tdiv 10)=n / 10:=by
 rw [Int.tdiv_eq_ediv_of_nonneg h]
 simp [IntKind.wrap,IntKind.signed,IntKind.bits];omega
end Go.Proofs.YtmalddmgdjkgaaaGreatDoor
namespace Go.Proofs
open Go.Shelf
def Tryz.lays137_ren:Go.Shelf.Ren:=⟨fun | 137=>147 | 217=>141 | 266=>153 | n=>n,fun | 9=>9 | 5=>5 | 3=>3 | n=>n,fun | n=>n⟩
theorem Tryz.lays137:Go.Proofs.Lays.n137 Tryz.prog Tryz.lays137_ren:={
 mixed:=by kernel_rfl
 f137:=Tryz.func147.trans (congrArg some (by kernel_rfl))
 f217:=Tryz.func141.trans (congrArg some (by kernel_rfl))
 f266:=Tryz.func153.trans (congrArg some (by kernel_rfl))
 t3:=Tryz.underlying3
 a3:=Tryz.isAgg3
 z3:=Tryz.sizeOf3
 v3:=Tryz.zeroValue3
 t5:=Tryz.underlying5
 a5:=Tryz.isAgg5
 z5:=Tryz.sizeOf5
 v5:=Tryz.zeroValue5
 t9:=Tryz.underlying9
 a9:=Tryz.isAgg9
 z9:=Tryz.sizeOf9
 v9:=Tryz.zeroValue9 }
theorem Tryz.strings_IndexByte (s:ByteArray) (c:Int) (w:World):
 Calls Tryz.prog 147 #[.string s,.int .u8 c] w fun e w'=>e=.returned (.int .i64 (Lib.indexByte s.data.toList c.toNat.toUInt8))∧w'=w:=Any.strings_IndexByte Tryz.lays137 s c w
def Tryz.lays145_ren:Go.Shelf.Ren:=⟨fun | 145=>92 | 220=>110 | 219=>123 | 217=>141 | 225=>142 | 224=>143 | 267=>144 | 266=>153 | 314=>154 | n=>n,fun | 9=>9 | 4=>4 | 59=>156 | 3=>3 | 5=>5 | 46=>140 | 146=>228 | 51=>227 | n=>n,fun | 1=>5 | n=>n⟩
theorem Tryz.lays145:Go.Proofs.Lays.n145 Tryz.prog Tryz.lays145_ren:={
 mixed:=by kernel_rfl
 f145:=Tryz.func92.trans (congrArg some (by kernel_rfl))
 f217:=Tryz.func141.trans (congrArg some (by kernel_rfl))
 f219:=Tryz.func123.trans (congrArg some (by kernel_rfl))
 f220:=Tryz.func110.trans (congrArg some (by kernel_rfl))
 f224:=Tryz.func143.trans (congrArg some (by kernel_rfl))
 f225:=Tryz.func142.trans (congrArg some (by kernel_rfl))
 f266:=Tryz.func153.trans (congrArg some (by kernel_rfl))
 f267:=Tryz.func144.trans (congrArg some (by kernel_rfl))
 f314:=Tryz.func154.trans (congrArg some (by kernel_rfl))
 t3:=Tryz.underlying3
 a3:=Tryz.isAgg3
 z3:=Tryz.sizeOf3
 v3:=Tryz.zeroValue3
 t4:=Tryz.underlying4
 a4:=Tryz.isAgg4
 z4:=Tryz.sizeOf4
 v4:=Tryz.zeroValue4
 t5:=Tryz.underlying5
 a5:=Tryz.isAgg5
 z5:=Tryz.sizeOf5
 v5:=Tryz.zeroValue5
 t9:=Tryz.underlying9
 a9:=Tryz.isAgg9
 z9:=Tryz.sizeOf9
 v9:=Tryz.zeroValue9
 t46:=Tryz.underlying140
 a46:=Tryz.isAgg140
 z46:=Tryz.sizeOf140
 v46:=Tryz.zeroValue140
 t51:=Tryz.underlying227
 a51:=Tryz.isAgg227
 z51:=Tryz.sizeOf227
 v51:=Tryz.zeroValue227
 t59:=Tryz.underlying156
 a59:=Tryz.isAgg156
 z59:=Tryz.sizeOf156
 v59:=Tryz.zeroValue156
 t146:=Tryz.underlying228
 a146:=Tryz.isAgg228
 z146:=Tryz.sizeOf228
 v146:=Tryz.zeroValue228
 g1:=by kernel_rfl }
theorem Tryz.strings_Cut (s sep:ByteArray) (m:Int) (w:World) (hs:s.size<4294967281) (hm:w.cell? ⟨5,0,none⟩=some (.int .i64 m)):
 Calls Tryz.prog 92 #[.string s,.string sep] w fun e w'=>e=.returned (.tuple #[.string ⟨(Lib.cut s.data.toList sep.data.toList).1.toArray⟩,.string ⟨(Lib.cut s.data.toList sep.data.toList).2.1.toArray⟩,.bool (Lib.cut s.data.toList sep.data.toList).2.2])∧∃ n,w'=w.drewN n:=Any.strings_Cut Tryz.lays145 s sep m w hs hm
def Tryz.lays147_ren:Go.Shelf.Ren:=⟨fun | 147=>111 | 221=>124 | 268=>145 | 138=>91 | 143=>109 | 195=>107 | 197=>155 | 218=>108 | 219=>123 | 260=>159 | 217=>141 | 225=>142 | 224=>143 | 267=>144 | 266=>153 | 314=>154 | n=>n,fun | 9=>9 | 3=>3 | 31=>116 | 4=>4 | 0=>0 | 105=>230 | 21=>21 | 5=>5 | 46=>140 | 119=>241 | 139=>244 | 138=>243 | 146=>228 | 51=>227 | n=>n,fun | 1=>5 | 3=>10 | 4=>11 | n=>n⟩
theorem Tryz.lays147:Go.Proofs.Lays.n147 Tryz.prog Tryz.lays147_ren:={
 mixed:=by kernel_rfl
 f138:=Tryz.func91.trans (congrArg some (by kernel_rfl))
 f143:=Tryz.func109.trans (congrArg some (by kernel_rfl))
 f147:=Tryz.func111.trans (congrArg some (by kernel_rfl))
 f195:=Tryz.func107.trans (congrArg some (by kernel_rfl))
 f197:=Tryz.func155.trans (congrArg some (by kernel_rfl))
 f217:=Tryz.func141.trans (congrArg some (by kernel_rfl))
 f218:=Tryz.func108.trans (congrArg some (by kernel_rfl))
 f219:=Tryz.func123.trans (congrArg some (by kernel_rfl))
 f221:=Tryz.func124.trans (congrArg some (by kernel_rfl))
 f224:=Tryz.func143.trans (congrArg some (by kernel_rfl))
 f225:=Tryz.func142.trans (congrArg some (by kernel_rfl))
 f260:=Tryz.func159.trans (congrArg some (by kernel_rfl))
 f266:=Tryz.func153.trans (congrArg some (by kernel_rfl))
 f267:=Tryz.func144.trans (congrArg some (by kernel_rfl))
 f268:=Tryz.func145.trans (congrArg some (by kernel_rfl))
 f314:=Tryz.func154.trans (congrArg some (by kernel_rfl))
 t0:=Tryz.underlying0
 a0:=Tryz.isAgg0
 z0:=Tryz.sizeOf0
 v0:=Tryz.zeroValue0
 t3:=Tryz.underlying3
 a3:=Tryz.isAgg3
 z3:=Tryz.sizeOf3
 v3:=Tryz.zeroValue3
 t4:=Tryz.underlying4
 a4:=Tryz.isAgg4
 z4:=Tryz.sizeOf4
 v4:=Tryz.zeroValue4
 t5:=Tryz.underlying5
 a5:=Tryz.isAgg5
 z5:=Tryz.sizeOf5
 v5:=Tryz.zeroValue5
 t9:=Tryz.underlying9
 a9:=Tryz.isAgg9
 z9:=Tryz.sizeOf9
 v9:=Tryz.zeroValue9
 t21:=Tryz.underlying21
 a21:=Tryz.isAgg21
 z21:=Tryz.sizeOf21
 v21:=Tryz.zeroValue21
 t31:=Tryz.underlying116
 a31:=Tryz.isAgg116
 z31:=Tryz.sizeOf116
 v31:=Tryz.zeroValue116
 t46:=Tryz.underlying140
 a46:=Tryz.isAgg140
 z46:=Tryz.sizeOf140
 v46:=Tryz.zeroValue140
 t51:=Tryz.underlying227
 a51:=Tryz.isAgg227
 z51:=Tryz.sizeOf227
 v51:=Tryz.zeroValue227
 t105:=Tryz.underlying230
 a105:=Tryz.isAgg230
 z105:=Tryz.sizeOf230
 v105:=Tryz.zeroValue230
 t119:=Tryz.underlying241
 a119:=Tryz.isAgg241
 z119:=Tryz.sizeOf241
 t138:=Tryz.underlying243
 a138:=Tryz.isAgg243
 z138:=Tryz.sizeOf243
 v138:=Tryz.zeroValue243
 t139:=Tryz.underlying244
 a139:=Tryz.isAgg244
 z139:=Tryz.sizeOf244
 v139:=Tryz.zeroValue244
 t146:=Tryz.underlying228
 a146:=Tryz.isAgg228
 z146:=Tryz.sizeOf228
 v146:=Tryz.zeroValue228
 g1:=by kernel_rfl
 g3:=by kernel_rfl
 g4:=by kernel_rfl }
theorem Tryz.strings_SplitN (s sep:ByteArray) (n:Nat) (m:Int) (w:World) (hs:s.size<4294967281) (hm:w.cell? ⟨5,0,none⟩=some (.int .i64 m)) (h1:1≤sep.size) (hn:1≤n) (hn63:n≤9223372036854775807):
 Calls Tryz.prog 111 #[.string s,.string sep,.int .i64 n] w fun e w'=>
  e=.returned (.slice (some ⟨w.heap.size,0,none⟩) (Lib.splitB sep 0 (min n (s.size+1) - 1) s).length (min n (s.size+1)))∧w'=w.alloc (.cells (Lib.cellsOf (Lib.splitB sep 0 (min n (s.size+1) - 1) s) (min n (s.size+1))) 9):=Any.strings_SplitN Tryz.lays147 (by kernel_rfl) s sep n m w hs hm h1 hn hn63
def Tryz.lays146_ren:Go.Shelf.Ren:=⟨fun | 146=>151 | 221=>124 | 268=>145 | 138=>91 | 143=>109 | 195=>107 | 197=>155 | 218=>108 | 219=>123 | 260=>159 | 217=>141 | 225=>142 | 224=>143 | 267=>144 | 266=>153 | 314=>154 | n=>n,fun | 9=>9 | 31=>116 | 3=>3 | 4=>4 | 0=>0 | 105=>230 | 21=>21 | 5=>5 | 46=>140 | 119=>241 | 139=>244 | 138=>243 | 146=>228 | 51=>227 | n=>n,fun | 1=>5 | 3=>10 | 4=>11 | n=>n⟩
theorem Tryz.lays146:Go.Proofs.Lays.n146 Tryz.prog Tryz.lays146_ren:={
 mixed:=by kernel_rfl
 f138:=Tryz.func91.trans (congrArg some (by kernel_rfl))
 f143:=Tryz.func109.trans (congrArg some (by kernel_rfl))
 f146:=Tryz.func151.trans (congrArg some (by kernel_rfl))
 f195:=Tryz.func107.trans (congrArg some (by kernel_rfl))
 f197:=Tryz.func155.trans (congrArg some (by kernel_rfl))
 f217:=Tryz.func141.trans (congrArg some (by kernel_rfl))
 f218:=Tryz.func108.trans (congrArg some (by kernel_rfl))
 f219:=Tryz.func123.trans (congrArg some (by kernel_rfl))
 f221:=Tryz.func124.trans (congrArg some (by kernel_rfl))
 f224:=Tryz.func143.trans (congrArg some (by kernel_rfl))
 f225:=Tryz.func142.trans (congrArg some (by kernel_rfl))
 f260:=Tryz.func159.trans (congrArg some (by kernel_rfl))
 f266:=Tryz.func153.trans (congrArg some (by kernel_rfl))
 f267:=Tryz.func144.trans (congrArg some (by kernel_rfl))
 f268:=Tryz.func145.trans (congrArg some (by kernel_rfl))
 f314:=Tryz.func154.trans (congrArg some (by kernel_rfl))
 t0:=Tryz.underlying0
 a0:=Tryz.isAgg0
 z0:=Tryz.sizeOf0
 v0:=Tryz.zeroValue0
 t3:=Tryz.underlying3
 a3:=Tryz.isAgg3
 z3:=Tryz.sizeOf3
 v3:=Tryz.zeroValue3
 t4:=Tryz.underlying4
 a4:=Tryz.isAgg4
 z4:=Tryz.sizeOf4
 v4:=Tryz.zeroValue4
 t5:=Tryz.underlying5
 a5:=Tryz.isAgg5
 z5:=Tryz.sizeOf5
 v5:=Tryz.zeroValue5
 t9:=Tryz.underlying9
 a9:=Tryz.isAgg9
 z9:=Tryz.sizeOf9
 v9:=Tryz.zeroValue9
 t21:=Tryz.underlying21
 a21:=Tryz.isAgg21
 z21:=Tryz.sizeOf21
 v21:=Tryz.zeroValue21
 t31:=Tryz.underlying116
 a31:=Tryz.isAgg116
 z31:=Tryz.sizeOf116
 v31:=Tryz.zeroValue116
 t46:=Tryz.underlying140
 a46:=Tryz.isAgg140
 z46:=Tryz.sizeOf140
 v46:=Tryz.zeroValue140
 t51:=Tryz.underlying227
 a51:=Tryz.isAgg227
 z51:=Tryz.sizeOf227
 v51:=Tryz.zeroValue227
 t105:=Tryz.underlying230
 a105:=Tryz.isAgg230
 z105:=Tryz.sizeOf230
 v105:=Tryz.zeroValue230
 t119:=Tryz.underlying241
 a119:=Tryz.isAgg241
 z119:=Tryz.sizeOf241
 t138:=Tryz.underlying243
 a138:=Tryz.isAgg243
 z138:=Tryz.sizeOf243
 v138:=Tryz.zeroValue243
 t139:=Tryz.underlying244
 a139:=Tryz.isAgg244
 z139:=Tryz.sizeOf244
 v139:=Tryz.zeroValue244
 t146:=Tryz.underlying228
 a146:=Tryz.isAgg228
 z146:=Tryz.sizeOf228
 v146:=Tryz.zeroValue228
 g1:=by kernel_rfl
 g3:=by kernel_rfl
 g4:=by kernel_rfl }
theorem Tryz.strings_Split (s sep:ByteArray) (m:Int) (w:World) (hs:s.size<4294967281) (hm:w.cell? ⟨5,0,none⟩=some (.int .i64 m)) (h1:1≤sep.size):
 Calls Tryz.prog 151 #[.string s,.string sep] w fun e w'=>
  e=.returned (.slice (some ⟨w.heap.size,0,none⟩) (Lib.countB s sep+1) (Lib.countB s sep+1))∧w'=w.alloc (.cells ((Lib.splitB sep 0 (Lib.countB s sep) s).map Value.string).toArray 9):=Any.strings_Split Tryz.lays146 (by kernel_rfl) s sep m w hs hm h1
end Go.Proofs
namespace Go.Proofs.YtmalddmgdjkgaaaGreatDoor.G
end Go.Proofs.YtmalddmgdjkgaaaGreatDoor.G
