import Derived.Test.YtlckdgjfniglfaaGreatDoorCM
import Derived.WalkKit
import Derived.Laws.BytesArg
import Derived.Shelf.Strings.Cut
import Derived.Deep.RegionHeld3
import Derived.Maps.OwnSet
import Derived.Maps.Ext
import Derived.Sort.KeysCollected
import Derived.Lib.SlKeysI
import Derived.Lib.SlMapMerge
import Derived.Shelf.SlIter.Nil
import Derived.Shelf.SlIterI.Nil
import Derived.Shelf.SortM.Plain
import Derived.Shelf.SortM.SortNone
import Derived.Ground.GgzProg
import Derived.Ground.SlgmProg
set_option linter.unusedVariables false
namespace Go.Proofs.YtlckdgjfniglfaaGreatDoor
open Proofs.Tryz
open Go.RowKit
def isDig (c:UInt8):Bool:=decide (48<=(c.toNat:Int)/\(c.toNat:Int)<=57)
def isGraph (c:UInt8):Bool:=decide (33<=(c.toNat:Int)/\(c.toNat:Int)<=126)
def nameOk (l:List UInt8):Bool:=decide (1<=l.length/\l.length<=20)&&l.all isGraph
def vstep (n:Int) (c:UInt8):Int:=n*10+((c.toNat:Int) - 48)
def val (l:List UInt8):Int:=l.foldl vstep 0
theorem val_snoc (l:List UInt8) (c:UInt8):val (l++[c])=val l*10+((c.toNat:Int) - 48):=by simp [val,vstep]
theorem dig_iff (c:UInt8):isDig c=true↔48<=(c.toNat:Int)/\(c.toNat:Int)<=57:=by simp [isDig]
theorem graph_iff (c:UInt8):isGraph c=true↔33<=(c.toNat:Int)/\(c.toNat:Int)<=126:=by simp [isGraph]
theorem snoc_ind {P:List UInt8->Prop} (h0:P []) (h1:∀ l c,P l->P (l++[c])) (l:List UInt8):P l:=by
 have h:∀ r:List UInt8,P r.reverse:=fun r=>by
  induction r with
  | nil=>exact h0
  | cons c r ih=>rw [List.reverse_cons];exact h1 _ _ ih
 have:=h l.reverse
 rwa [List.reverse_reverse] at this
theorem val_nonneg (l:List UInt8):l.all isDig=true->0<=val l:=by
 refine snoc_ind (P:=fun l=>l.all isDig=true->0<=val l) (by simp [val]) (fun l c ih h=>?_) l;rw [List.all_append] at h;simp only [List.all_cons,List.all_nil,Bool.and_true,Bool.and_eq_true] at h;have:=ih h.1;have hc:=(dig_iff c).1 h.2;rw [val_snoc];omega
theorem val_take_le (l:List UInt8):l.all isDig=true->∀ k,val (l.take k)<=val l:=by
 refine snoc_ind (P:=fun l=>l.all isDig=true->∀ k,val (l.take k)<=val l) (by simp [val]) (fun l c ih h k=>?_) l;rw [List.all_append] at h;simp only [List.all_cons,List.all_nil,Bool.and_true,Bool.and_eq_true] at h;by_cases hk:k<=l.length
 · rw [List.take_append_of_le_length hk,val_snoc]
   have:=ih h.1 k;have h0:=val_nonneg l h.1;have hc:=(dig_iff c).1 h.2;omega
 · rw [List.take_of_length_le so_];exact Int.le_refl _
def lean1 (l:List UInt8):Bool:=!l.isEmpty&&!(l.headD 0==48&&!(l==[48]))
def num40 (l:List UInt8):Bool:=lean1 l&&l.all isDig&&decide (val l<=40)
def decF:Nat->Int->List UInt8
 | 0,_=>[]
 | f+1,n=>if n<10 then [UInt8.ofNat (48+n).toNat] else decF f (n / 10)++[UInt8.ofNat (48+n % 10).toNat]
def dec (n:Int):List UInt8:=decF (n.toNat+1) n
theorem decF_any (f g:Nat) (n:Int) (h0:0<=n) (hf:n.toNat<f) (hg:n.toNat<g):decF f n=decF g n:=by
 induction f generalizing g n with
 | zero=>omega
 | succ f ih=>
  cases g with
  | zero=>omega
  | succ g=>
   simp only [decF];by_cases h:n<10
   · rw [if_pos h,if_pos h]
   · rw [if_neg h,if_neg h,ih g (n / 10) om_ om_ om_]
theorem dec_lt (n:Int) (h:n<10):dec n=[UInt8.ofNat (48+n).toNat]:=by simp [dec,decF,h]
theorem dec_ge (n:Int) (h:10<=n):dec n=dec (n / 10)++[UInt8.ofNat (48+n % 10).toNat]:=by
 unfold dec;rw [decF,if_neg om_,decF_any n.toNat ((n / 10).toNat+1) (n / 10) om_ om_ om_]
theorem dec_ne (n:Int):dec n≠[]:=by
 by_cases h:n<10
 · rw [dec_lt n h];simp
 · rw [dec_ge n om_];simp
theorem ofNat_dig (c:UInt8) (h:isDig c=true):UInt8.ofNat (48+((c.toNat:Int) - 48)).toNat=c:=by
 have:=(dig_iff c).1 h;rw [show (48+((c.toNat:Int) - 48)).toNat=c.toNat by omega];exact UInt8.ofNat_toNat
theorem dec_val (l:List UInt8):l.all isDig=true->lean1 l=true->dec (val l)=l/\(2<=l.length->10<=val l)/\(l.headD 0≠48->1<=val l):=by
 refine snoc_ind (P:=fun l=>l.all isDig=true->lean1 l=true->dec (val l)=l/\(2<=l.length->10<=val l)/\(l.headD 0≠48->1<=val l)) (by simp [lean1]) (fun l c ih h hl=>?_) l;rw [List.all_append] at h;simp only [List.all_cons,List.all_nil,Bool.and_true,Bool.and_eq_true] at h;have hc:=(dig_iff c).1 h.2;have hd:=ofNat_dig c h.2
 cases l with
 | nil=>
  have e:val ([]++[c])=(c.toNat:Int) - 48:=by rw [val_snoc];simp [val]
  rw [e];refine ⟨?_,sm_,?_⟩
  · rw [dec_lt _ om_,hd];rfl
  · intro h1
    simp at h1;have:c.toNat≠48:=fun e=>h1 (by rw [<- UInt8.toNat_inj];exact e);omega
 | cons a r=>
  have ha:a≠48:=by
   intro e;subst e;simp [lean1] at hl
  have hl':lean1 (a::r)=true:=by simp [lean1,ha]
  obtain ⟨h1,_,h3⟩:=ih h.1 hl';have h4:=h3 (by simpa using ha);rw [val_snoc];have hdiv:(val (a::r)*10+((c.toNat:Int) - 48)) / 10=val (a::r):=om_;have hmod:(val (a::r)*10+((c.toNat:Int) - 48)) % 10=(c.toNat:Int) - 48:=om_;refine ⟨?_,fun _=>om_,fun _=>om_⟩;rw [dec_ge _ om_,hdiv,hmod,h1,hd]
theorem dec_lean (f:Nat) (n:Int) (h0:0<=n) (hf:n.toNat<f):lean1 (dec n)=true/\(1<=n->(dec n).headD 0≠48):=by
 induction f generalizing n with
 | zero=>omega
 | succ f ih=>
  by_cases h:n<10
  · rw [dec_lt n h]
    obtain rfl | rfl | rfl | rfl | rfl | rfl | rfl | rfl | rfl | rfl:n=0\/n=1\/n=2\/n=3\/n=4\/n=5\/n=6\/n=7\/n=8\/n=9:=om_
    all_goals decide
  · obtain ⟨h1,h2⟩:=ih (n / 10) om_ om_
    have h3:=h2 om_;rw [dec_ge n om_];have hne:=dec_ne (n / 10);generalize dec (n / 10)=l at*
    cases l with
    | nil=>exact absurd rfl hne
    | cons a r=>
     have ha:a≠48:=by simpa using h3
     exact ⟨by simp [lean1,ha],fun _=>by simpa using ha⟩
theorem val_dig_len (l:List UInt8) (h:l.all isDig=true) (hl:lean1 l=true) (h40:val l<=40):l.length<=2:=by
 rcases Nat.lt_or_ge 2 l.length with h2 | h2
 · exfalso
   rcases List.eq_nil_or_concat l with e | ⟨r,c,e⟩
   · subst e;simp at h2
   · rw [List.concat_eq_append] at e
     subst e;rw [List.all_append] at h;simp only [List.all_cons,List.all_nil,Bool.and_true,Bool.and_eq_true] at h;have hr:2<=r.length:=by simp at h2;omega
     cases r with
     | nil=>simp at hr
     | cons a r=>
      have ha:a≠48:=by
       intro e;subst e;simp [lean1] at hl
      have:=(dec_val (a::r) h.1 (by simp [lean1,ha])).2.1 hr;have hc:=(dig_iff c).1 h.2;rw [val_snoc] at h40;omega
 · exact h2
theorem decF_len (f:Nat) (n:Int):(decF f n).length<=f:=by
 induction f generalizing n with
 | zero=>simp [decF]
 | succ f ih=>
  simp only [decF];by_cases h:n<10
  · rw [if_pos h];simp
  · rw [if_neg h];have:=ih (n / 10);simp;omega
theorem dec_len (n:Int) (h:0<=n) (h1:n<=100000000):(dec n).length<=100000001:=by
 have:=decF_len (n.toNat+1) n;unfold dec;omega
theorem div_form (n:Int) (h:0<=n) (h1:n<=100000000):IntKind.i64.wrap (n.tdiv 10)=n / 10:=by
 rw [Int.tdiv_eq_ediv_of_nonneg h];simp [IntKind.wrap,IntKind.signed,IntKind.bits];omega
end Go.Proofs.YtlckdgjfniglfaaGreatDoor
namespace Go.Proofs
open Go.Shelf
def Tryz.lays145_ren:Go.Shelf.Ren:=⟨fun | 145=>75 | 220=>111 | 219=>144 | 217=>164 | 225=>165 | 224=>166 | 267=>167 | 266=>196 | 314=>197 | n=>n,fun | 9=>9 | 4=>4 | 59=>141 | 3=>3 | 5=>5 | 46=>180 | 146=>246 | 51=>238 | n=>n,fun | 1=>0 | n=>n⟩
theorem Tryz.lays145:Go.Proofs.Lays.n145 prog Tryz.lays145_ren:={
 mixed:=kr_
 f145:=func75.trans (congrArg some kr_)
 f217:=func164.trans (congrArg some kr_)
 f219:=func144.trans (congrArg some kr_)
 f220:=func111.trans (congrArg some kr_)
 f224:=func166.trans (congrArg some kr_)
 f225:=func165.trans (congrArg some kr_)
 f266:=func196.trans (congrArg some kr_)
 f267:=func167.trans (congrArg some kr_)
 f314:=func197.trans (congrArg some kr_)
 t3:=underlying3
 a3:=Tryz.isAgg3
 z3:=Tryz.sizeOf3
 v3:=Tryz.zeroValue3
 t4:=underlying4
 a4:=Tryz.isAgg4
 z4:=Tryz.sizeOf4
 v4:=Tryz.zeroValue4
 t5:=underlying5
 a5:=Tryz.isAgg5
 z5:=Tryz.sizeOf5
 v5:=Tryz.zeroValue5
 t9:=underlying9
 a9:=Tryz.isAgg9
 z9:=Tryz.sizeOf9
 v9:=Tryz.zeroValue9
 t46:=underlying180
 a46:=Tryz.isAgg180
 z46:=Tryz.sizeOf180
 v46:=Tryz.zeroValue180
 t51:=underlying238
 a51:=Tryz.isAgg238
 z51:=Tryz.sizeOf238
 v51:=Tryz.zeroValue238
 t59:=underlying141
 a59:=Tryz.isAgg141
 z59:=Tryz.sizeOf141
 v59:=Tryz.zeroValue141
 t146:=underlying246
 a146:=Tryz.isAgg246
 z146:=Tryz.sizeOf246
 v146:=Tryz.zeroValue246
 g1:=by kernel_rfl }
theorem Tryz.strings_Cut (s sep:ByteArray) (m:Int) (w:World) (hs:s.size<4294967281) (hm:w.cell? ⟨0,0,none⟩=some (.int .i64 m)):
 Calls prog 75 #[.string s,.string sep] w fun e w'=>e=.returned (.tuple #[.string ⟨(Lib.cut s.data.toList sep.data.toList).1.toArray⟩,.string ⟨(Lib.cut s.data.toList sep.data.toList).2.1.toArray⟩,.bool (Lib.cut s.data.toList sep.data.toList).2.2])/\∃ n,w'=w.drewN n:=Any.strings_Cut Tryz.lays145 s sep m w hs hm
end Go.Proofs
namespace Go.Proofs.YtlckdgjfniglfaaGreatDoor
theorem qq:(∀ (a:Act) (d:Nat) (v:Value),a.put (some d) v={ a with tmps:=a.tmps.setIfInBounds d v })/\(∀ (a:Act) (v:Value),a.put none v=a)/\(∀ {α:Type} (l:List α) (i:Nat) (a:α),l.toArray.setIfInBounds i a=(l.set i a).toArray)/\(∀ {α:Type} (x:α) (l:List α) (a:α),(x::l).set 0 a=a::l)/\∀ {α:Type} (x:α) (l:List α) (i:Nat) (a:α),(x::l).set (i+1) a=x::l.set i a:=⟨fun _ _ _=>rfl,fun _ _=>rfl,fun _ _ _=>List.setIfInBounds_toArray ..,fun _ _ _=>rfl,fun _ _ _ _=>rfl⟩
theorem rd {P:Program} {ops:Array Oper} {Q:Exit->Act->World->Prop} {md:Region.Mode} {S:World->Prop} {fuel:Nat} {listed:Array Bool} {a:Act} {w:World} {i:Nat} {o:Oper} (ho:ops[i]?=some o) (hr:Region.ready md ops listed=[i]) (h:∀ K':Act->World->Prop,Shut (∀ a w,S w->(S w->wpAnyH P md ops Q S fuel (listed.setIfInBounds i true) a w)->K' a w)->if Region.wanted o (yielded ops a.tmps)=true then Oper.wp P o a w K' Q else K' (a.put o.dst undef) w):wpAnyH P md ops Q S (fuel+1) listed a w:=wpAnyH_ready hr sm_ (AllReadyH.cons ho h AllReadyH.nil)
theorem tk {P:Program} {ops:Array Oper} {Q:Exit->Act->World->Prop} {md:Region.Mode} {S:World->Prop} {i:Nat} {oi:Oper} {v:Value} {fuel:Nat} {listed:Array Bool} {a:Act} {w:World} (hi:ops[i]?=some oi) (hb:(Region.noSelect ops&&Region.free md ops listed i&&(Region.ready md ops listed).contains i)=true) (hw:Region.wanted oi (yielded ops a.tmps)=true) (hv:∀ u,S u->(execOp a.eval oi).run P u=.ok (.value v) u) (hS:S w) (h:wpAnyH P md ops Q S fuel (listed.setIfInBounds i true) (a.put oi.dst v) w) (hQ:∀ c a w,Q (.panic c) (a.put oi.dst v) w->Q (.panic c) a w:=by exact fun _ _ _ h=>h):wpAnyH P md ops Q S (fuel+1) listed a w:=by
 simp only [Bool.and_eq_true] at hb;exact wpAnyH_take hi hb.1.1 hb.1.2 hb.2 hQ (.inl ⟨hw,hv⟩) hS h
theorem tu {P:Program} {ops:Array Oper} {Q:Exit->Act->World->Prop} {md:Region.Mode} {S:World->Prop} {i:Nat} {oi:Oper} {fuel:Nat} {listed:Array Bool} {a:Act} {w:World} (hi:ops[i]?=some oi) (hb:(Region.noSelect ops&&Region.free md ops listed i&&(Region.ready md ops listed).contains i)=true) (hw:Region.wanted oi (yielded ops a.tmps)=false) (hS:S w) (h:wpAnyH P md ops Q S fuel (listed.setIfInBounds i true) (a.put oi.dst undef) w) (hQ:∀ c a w,Q (.panic c) (a.put oi.dst undef) w->Q (.panic c) a w:=by exact fun _ _ _ h=>h):wpAnyH P md ops Q S (fuel+1) listed a w:=by
 simp only [Bool.and_eq_true] at hb;exact wpAnyH_take hi hb.1.1 hb.1.2 hb.2 hQ (.inr ⟨hw,rfl⟩) hS h
theorem tq {P:Program} {ops:Array Oper} {Q:Exit->Act->World->Prop} {md:Region.Mode} {S:World->Prop} {v:Value} {fuel:Nat} {listed:Array Bool} {a:Act} {w:World} {d:Option Nat} {op:Op} {ty:TypeId} {p:String} {af:Array Edge} {g:Option (Nat×Bool)} (i:Nat) (hS:S w) (h:wpAnyH P md ops Q S fuel (listed.setIfInBounds i true) (a.put d v) w) (hi:ops[i]?=some ⟨d,op,ty,p,af,g⟩:=by exact rfl) (hb:(Region.noSelect ops&&Region.free md ops listed i&&(Region.ready md ops listed).contains i)=true:=by kernel_rfl) (hw:Region.wanted ⟨d,op,ty,p,af,g⟩ (yielded ops a.tmps)=true:=by exact rfl) (hv:∀ u,S u->(execOp a.eval ⟨d,op,ty,p,af,g⟩).run P u=.ok (.value v) u:=by intro wq hSw;(try dsimp only at hSw);go_simp;try with_reducible rfl) (hQ:∀ c a w,Q (.panic c) (a.put d v) w->Q (.panic c) a w:=by first | exact fun _ _ _ h=>h | exact fun _ _ _ h=>hQ _ _ _ _ _ h):wpAnyH P md ops Q S (fuel+1) listed a w:=tk hi hb hw hv hS h hQ
theorem uq {P:Program} {ops:Array Oper} {Q:Exit->Act->World->Prop} {md:Region.Mode} {S:World->Prop} {fuel:Nat} {listed:Array Bool} {a:Act} {w:World} {d:Option Nat} {op:Op} {ty:TypeId} {p:String} {af:Array Edge} {g:Option (Nat×Bool)} (i:Nat) (hS:S w) (h:wpAnyH P md ops Q S fuel (listed.setIfInBounds i true) (a.put d undef) w) (hi:ops[i]?=some ⟨d,op,ty,p,af,g⟩:=by exact rfl) (hb:(Region.noSelect ops&&Region.free md ops listed i&&(Region.ready md ops listed).contains i)=true:=by kernel_rfl) (hw:Region.wanted ⟨d,op,ty,p,af,g⟩ (yielded ops a.tmps)=false:=by exact rfl) (hQ:∀ c a w,Q (.panic c) (a.put d undef) w->Q (.panic c) a w:=by first | exact fun _ _ _ h=>h | exact fun _ _ _ h=>hQ _ _ _ _ _ h):wpAnyH P md ops Q S (fuel+1) listed a w:=tu hi hb hw hS h hQ
theorem rq {P:Program} {ops:Array Oper} {Q:Exit->Act->World->Prop} {md:Region.Mode} {S:World->Prop} {fuel:Nat} {listed:Array Bool} {a:Act} {w:World} {d:Option Nat} {op:Op} {ty:TypeId} {p:String} {af:Array Edge} {g:Option (Nat×Bool)} (i:Nat) (h:∀ K':Act->World->Prop,Shut (∀ a w,S w->(S w->wpAnyH P md ops Q S fuel (listed.setIfInBounds i true) a w)->K' a w)->if Region.wanted ⟨d,op,ty,p,af,g⟩ (yielded ops a.tmps)=true then Oper.wp P ⟨d,op,ty,p,af,g⟩ a w K' Q else K' (a.put d undef) w) (ho:ops[i]?=some ⟨d,op,ty,p,af,g⟩:=by exact rfl) (hr:Region.ready md ops listed=[i]:=by kernel_rfl):wpAnyH P md ops Q S (fuel+1) listed a w:=rd ho hr h
open Go.RowKit Go.Maps
def tokR (v:Value):Option (DataW Value×List MemPlace):=some (.held v,[])
def kS (s:ByteArray):Lit:=.string s.data.toList
def eS (p:ByteArray×Value):Lit×DataW Value:=(kS p.1,.held p.2)
def mapD (l:List (ByteArray×Value)):DataW Value:=.map (l.map eS)
def bef (a b:ByteArray):Bool:=bytesBefore a.data.toList b.data.toList
def insK (x:ByteArray×Value):List (ByteArray×Value)->List (ByteArray×Value)
 | []=>[x]
 | y::r=>if bef x.1 y.1 then x::y::r else y::insK x r
def Asc (l:List (ByteArray×Value)):Prop:=l.Pairwise fun p q=>bef p.1 q.1=true
def getK (l:List (ByteArray×Value)) (k:ByteArray):Option Value:=(l.find? fun p=>decide (p.1=k)).map (·.2)
theorem ba_data {a b:ByteArray} (h:a.data.toList=b.data.toList):a=b:=by
 apply ByteArray.ext;exact Array.toList_inj.1 h
theorem kS_same (a b:ByteArray):(kS a).sameKey (kS b)=decide (a=b):=by
 show (a.data.toList==b.data.toList)=decide (a=b);by_cases h:a=b
 · simp [h]
 · rw [decide_eq_false h]
   exact beq_eq_false_iff_ne.2 (fun e=>h (ba_data e))
theorem mapD_at (l:List (ByteArray×Value)) (k:ByteArray) (z:DataW Value):(mapD l).atKey (kS k) z=match getK l k with | some v=>.held v | none=>z:=by
 unfold mapD DataW.atKey getK;simp only [List.find?_map];have e:((fun p:Lit×DataW Value=>p.1.sameKey (kS k))∘eS)=fun p=>decide (p.1=k):=funext fun p=>kS_same p.1 k;rw [e];cases List.find? (fun p:ByteArray×Value=>decide (p.1=k)) l <;> rfl
theorem mapD_has (l:List (ByteArray×Value)) (k:ByteArray):has (mapD l) (kS k)=(getK l k).isSome:=by
 show (l.map eS).any (fun p=>p.1.sameKey (kS k))=_;rw [List.any_map];have e:((fun p:Lit×DataW Value=>p.1.sameKey (kS k))∘eS)=fun p=>decide (p.1=k):=funext fun p=>kS_same p.1 k;rw [e];unfold getK;rw [Option.isSome_map,Bool.eq_iff_iff];simp
theorem mapD_size (l:List (ByteArray×Value)):size (mapD l)=l.length:=by
 show (l.map eS).length=_;simp
theorem mapD_keys (l:List (ByteArray×Value)):strKeys (mapD l)=l.map fun p=>p.1.data.toList:=by
 show (l.map eS).map _=_;simp [eS,kS,strOf,Function.comp_def]
theorem insK_eS (x:ByteArray×Value) (l:List (ByteArray×Value)):(insK x l).map eS=DataW.insert (eS x) (l.map eS):=by
 induction l with
 | nil=>rfl
 | cons y r ih=>
  unfold insK;show _=if (kS x.1).before (kS y.1)=true then _ else _;show List.map eS (if bytesBefore x.1.data.toList y.1.data.toList=true then _ else _)=if bytesBefore x.1.data.toList y.1.data.toList=true then _ else _;split
  · rfl
  · simp [ih]
theorem getK_none {l:List (ByteArray×Value)} {k:ByteArray}:getK l k=none↔∀ p∈l,p.1≠k:=by
 unfold getK;simp
theorem mapD_put {l:List (ByteArray×Value)} {k:ByteArray} (v:Value) (h:getK l k=none):(mapD l).put (kS k) (.held v)=mapD (insK (k,v) l):=by
 show DataW.map (DataW.insert (eS (k,v)) ((l.map eS).filter fun p=>!p.1.sameKey (kS k)))=DataW.map ((insK (k,v) l).map eS);rw [insK_eS]
 congr 2
 rw [List.filter_eq_self];intro p hp;obtain ⟨q,hq,rfl⟩:=List.mem_map.1 hp;show (!(kS q.1).sameKey (kS k))=true;rw [kS_same,decide_eq_false (getK_none.1 h q hq)];rfl
theorem insK_perm (x:ByteArray×Value) (l:List (ByteArray×Value)):(insK x l).Perm (x::l):=by
 induction l with
 | nil=>exact List.Perm.refl _
 | cons y r ih=>
  unfold insK;split
  · exact List.Perm.refl _
  · exact (ih.cons y).trans (List.Perm.swap x y r)
theorem bef_irr (a:ByteArray):bef a a=false:=WideAt.bytes_irrefl _
theorem bef_tr {a b c:ByteArray} (h:bef a b=true) (h':bef b c=true):bef a c=true:=WideShapes.bytes_trans _ _ _ h h'
theorem bef_tot {a b:ByteArray} (h:a≠b):bef a b=true\/bef b a=true:=WideAt.bytes_total _ _ (fun e=>h (ba_data e))
theorem insK_asc {x:ByteArray×Value} {l:List (ByteArray×Value)} (h:Asc l) (hx:∀ p∈l,p.1≠x.1):Asc (insK x l):=by
 induction l with
 | nil=>exact List.pairwise_singleton _ _
 | cons y r ih=>
  have h':=List.pairwise_cons.1 h;unfold insK;split
  · rename_i hb
    exact List.pairwise_cons.2 ⟨fun p hp=>by
     rcases List.mem_cons.1 hp with rfl | hp
     · exact hb
     · exact bef_tr hb (h'.1 p hp),h⟩
  · rename_i hb
    have hyx:bef y.1 x.1=true:=(bef_tot (hx y (List.mem_cons_self ..))).elim id (fun e=>absurd e hb);refine List.pairwise_cons.2 ⟨fun p hp=>?_,ih h'.2 (fun p hp=>hx p (List.mem_cons_of_mem _ hp))⟩;rcases List.mem_cons.1 ((insK_perm x r).mem_iff.1 hp) with rfl | hp
    · exact hyx
    · exact h'.1 p hp
theorem asc_eq {l l':List (ByteArray×Value)} (h:Asc l) (h':Asc l') (hp:l.Perm l'):l=l':=by
 refine List.Perm.eq_of_pairwise (le:=fun (p q:ByteArray×Value)=>bef p.1 q.1=true) (fun a b _ _ h1 h2=>?_) h h' hp;have:=bef_tr h1 h2;rw [bef_irr] at this;cases this
theorem getK_mem {l:List (ByteArray×Value)} {k:ByteArray} {v:Value} (h:getK l k=some v):(k,v)∈l:=by
 unfold getK at h;obtain ⟨p,hp,rfl⟩:=Option.map_eq_some_iff.1 h;have h1:=List.mem_of_find?_eq_some hp;have h2:=List.find?_some hp;simp at h2;rw [<- h2];exact h1
theorem getK_asc {l:List (ByteArray×Value)} (h:Asc l) {k:ByteArray} {v:Value} (hm:(k,v)∈l):getK l k=some v:=by
 induction l with
 | nil=>cases hm
 | cons y r ih=>
  have h':=List.pairwise_cons.1 h;rcases List.mem_cons.1 hm with rfl | hm
  · simp [getK]
  · have hne:y.1≠k:=fun e=>by
     have:=h'.1 _ hm;rw [e] at this;simp only [bef_irr] at this;cases this
    have hr:=ih h'.2 hm;unfold getK at hr ⊢;rw [List.find?_cons_of_neg (by simpa using hne)];exact hr
theorem mapD_merge (f l:List (ByteArray×Value)) (hf:Asc f) (hl:Asc l) (hd:∀ p∈f,getK l p.1=none):Asc (f.foldl (fun acc p=>insK p acc) l)/\(f.foldl (fun acc p=>insK p acc) l).Perm (f++l)/\Lib.mergeD (mapD l) (mapD f)=mapD (f.foldl (fun acc p=>insK p acc) l):=by
 show _/\_/\(f.map eS).foldl (fun D p=>D.put p.1 p.2) (mapD l)=_
 induction f generalizing l with
 | nil=>exact ⟨hl,List.Perm.refl _,rfl⟩
 | cons y r ih=>
  have h':=List.pairwise_cons.1 hf;have hy:=hd y (List.mem_cons_self ..);obtain ⟨i1,i2,i3⟩:=ih (insK y l) h'.2 (insK_asc hl (getK_none.1 hy)) (fun p hp=>getK_none.2 (fun q hq=>by
   rcases List.mem_cons.1 ((insK_perm y l).mem_iff.1 hq) with rfl | hq
   · intro e
     have:=h'.1 p hp;rw [e,bef_irr] at this;cases this
   · exact getK_none.1 (hd p (List.mem_cons_of_mem _ hp)) q hq))
  refine ⟨i1,?_,?_⟩
  · show (List.foldl (fun acc p=>insK p acc) (insK y l) r).Perm (y::(r++l))
    exact i2.trans (((insK_perm y l).append_left r).trans List.perm_middle)
  · show (r.map eS).foldl (fun D p=>D.put p.1 p.2) ((mapD l).put (kS y.1) (.held y.2))=_
    rw [mapD_put y.2 hy];exact i3
theorem bytes_lt:∀ (a b:List UInt8),bytesBefore a b=true->a<=b
 | [],_,_=>List.nil_le _
 | _::_,[],h=>by simp [bytesBefore] at h
 | x::r,y::s,h=>by
  simp [bytesBefore] at h;rcases h with h | ⟨rfl,h⟩
  · exact List.le_of_lt (List.Lex.rel h)
  · exact List.cons_le_cons_iff.2 (.inr ⟨rfl,bytes_lt r s h⟩)
theorem keys_sorted {l:List (ByteArray×Value)} (h:Asc l) {ss:List (List UInt8)} (hp:ss.Perm (strKeys (mapD l))):ss.mergeSort (fun x y=>decide (x<=y))=l.map fun p=>p.1.data.toList:=by
 rw [mapD_keys] at hp;have e:=mergeSort_of_perm hp;show ss.mergeSort leB=_;rw [e];apply List.mergeSort_of_pairwise;refine List.pairwise_map.2 (h.imp fun {p q} hb=>?_);simpa [leB] using bytes_lt _ _ hb
def iE (i:Nat) (v:Value):Lit×DataW Value:=(.int .i64 i,.held v)
def intD (vs:List Value):DataW Value:=.map ((List.range vs.length).map fun i=>iE i (vs.getD i undef))
theorem intD_size (vs:List Value):size (intD vs)=vs.length:=by
 show ((List.range vs.length).map fun i=>iE i (vs.getD i undef)).length=_;simp
theorem intD_keys (vs:List Value):intKeys (intD vs)=(List.range vs.length).map fun i:Nat=>(i:Int):=by
 show ((List.range vs.length).map fun i=>iE i (vs.getD i undef)).map _=_;simp [iE,Go.intOf,Function.comp_def]
theorem intD_at (vs:List Value) (k:Nat) (z:DataW Value):(intD vs).atKey (.int .i64 k) z=if k<vs.length then .held (vs.getD k undef) else z:=by
 unfold intD DataW.atKey;simp only [List.find?_map];have e:((fun p:Lit×DataW Value=>p.1.sameKey (.int .i64 k))∘fun i=>iE i (vs.getD i undef))=fun i=>decide (i=k):=funext fun i=>by simp [iE,Lit.sameKey];omega
 rw [e];by_cases h:k<vs.length
 · rw [if_pos h]
   have:List.find? (fun i=>decide (i=k)) (List.range vs.length)=some k:=by
    cases hq:List.find? (fun i=>decide (i=k)) (List.range vs.length) with
    | none=>exact absurd (List.find?_eq_none.1 hq k (List.mem_range.2 h)) sm_
    | some j=>have:=List.find?_some hq;simp at this;rw [this]
   rw [this];rfl
 · rw [if_neg h]
   have:List.find? (fun i=>decide (i=k)) (List.range vs.length)=none:=List.find?_eq_none.2 (fun j hj=>by have:=List.mem_range.1 hj;simp;omega);rw [this];rfl
theorem ins_last (x:Lit×DataW Value) (l:List (Lit×DataW Value)) (h:∀ p∈l,x.1.before p.1=false):DataW.insert x l=l++[x]:=by
 induction l with
 | nil=>rfl
 | cons y r ih=>
  unfold DataW.insert;rw [h y (List.mem_cons_self ..),ih (fun p hp=>h p (List.mem_cons_of_mem _ hp))];simp
theorem intD_put (vs:List Value) (v:Value):(intD vs).put (.int .i64 vs.length) (.held v)=intD (vs++[v]):=by
 show DataW.map (DataW.insert (iE vs.length v) (((List.range vs.length).map fun i=>iE i (vs.getD i undef)).filter fun p=>!p.1.sameKey (.int .i64 vs.length)))=DataW.map ((List.range (vs++[v]).length).map fun i=>iE i ((vs++[v]).getD i undef))
 congr 1
 rw [List.filter_eq_self.2,ins_last]
 · rw [List.length_append,List.length_singleton,List.range_succ,List.map_append]
   congr 1
   · apply List.map_congr_left
     intro i hi;have:=List.mem_range.1 hi;unfold iE;simp [List.getD,List.getElem?_append_left this]
   · simp [iE,List.getD]
 · intro p hp
   obtain ⟨i,hi,rfl⟩:=List.mem_map.1 hp;have:=List.mem_range.1 hi;show decide ((vs.length:Int)<(i:Int))=false;simp;omega
 · intro p hp
   obtain ⟨i,hi,rfl⟩:=List.mem_map.1 hp;have:=List.mem_range.1 hi;simp [iE,Lit.sameKey];omega
theorem ints_sorted {vs:List Value} {ss:List Int} (hp:ss.Perm (intKeys (intD vs))):ss.mergeSort (fun x y=>decide (x<=y))=(List.range vs.length).map fun i:Nat=>(i:Int):=by
 rw [intD_keys] at hp;have e:=mergeSort_of_perm_i hp;show ss.mergeSort leI=_;rw [e];apply List.mergeSort_of_pairwise;refine List.pairwise_map.2 (List.pairwise_lt_range.imp fun {p q} hb=>?_);simp [leI];omega
end Go.Proofs.YtlckdgjfniglfaaGreatDoor
namespace Go.Proofs
open Go.Shelf
def Tryz.keysA_ren:Go.Shelf.Ren:=⟨fun | 7=>97 | 10=>136 | n=>n,fun | 23=>84 | 26=>9 | 3=>92 | 28=>169 | 0=>0 | 27=>168 | 33=>128 | 4=>4 | n=>n,fun | n=>n⟩
theorem Tryz.keysA:Go.Proofs.SlLaysZ.n7 prog Tryz.keysA_ren:={
 mixed:=kr_
 f7:=⟨Tryz.f97.name,dc_,func97.trans (congrArg some kr_)⟩
 f10:=⟨Tryz.f136.name,dc_,func136.trans (congrArg some kr_)⟩
 t0:=underlying0
 a0:=Tryz.isAgg0
 z0:=Tryz.sizeOf0
 v0:=Tryz.zeroValue0
 t4:=underlying4
 a4:=Tryz.isAgg4
 z4:=Tryz.sizeOf4
 v4:=Tryz.zeroValue4
 t23:=underlying84
 a23:=Tryz.isAgg84
 z23:=Tryz.sizeOf84
 v23:=Tryz.zeroValue84
 t26:=underlying9
 a26:=Tryz.isAgg9
 z26:=Tryz.sizeOf9
 v26:=Tryz.zeroValue9
 t27:=underlying168
 a27:=Tryz.isAgg168
 z27:=Tryz.sizeOf168
 v27:=Tryz.zeroValue168
 t28:=underlying169
 a28:=Tryz.isAgg169
 z28:=Tryz.sizeOf169
 v28:=Tryz.zeroValue169
 t33:=underlying128
 a33:=Tryz.isAgg128
 z33:=Tryz.sizeOf128
 v33:=Tryz.zeroValue128 }
def Tryz.sortedA_ren:Go.Shelf.Ren:=⟨fun | 6=>96 | 8=>134 | 9=>135 | 11=>158 | 13=>160 | 12=>159 | 23=>185 | 24=>186 | 14=>176 | 15=>177 | 16=>178 | 17=>179 | 18=>180 | 19=>181 | 20=>182 | 21=>183 | 22=>184 | 25=>200 | 26=>201 | 27=>202 | 28=>203 | 29=>204 | 30=>205 | 31=>214 | n=>n,fun | 26=>9 | 28=>169 | 24=>22 | 0=>0 | 3=>3 | 37=>180 | 48=>238 | 50=>178 | 4=>4 | 40=>232 | 39=>231 | 45=>143 | 5=>5 | 9=>9 | 51=>249 | 55=>253 | 57=>265 | 58=>266 | 33=>128 | n=>n,fun | n=>n⟩
theorem Tryz.sortedA:Go.Proofs.SlLaysZ.n6 prog Tryz.sortedA_ren:={
 mixed:=kr_
 f6:=⟨Tryz.f96.name,dc_,func96.trans (congrArg some kr_)⟩
 f8:=⟨Tryz.f134.name,dc_,func134.trans (congrArg some kr_)⟩
 f11:=⟨Tryz.f158.name,dc_,func158.trans (congrArg some kr_)⟩
 t0:=underlying0
 a0:=Tryz.isAgg0
 z0:=Tryz.sizeOf0
 v0:=Tryz.zeroValue0
 t24:=underlying22
 a24:=Tryz.isAgg22
 z24:=Tryz.sizeOf22
 v24:=Tryz.zeroValue22
 t26:=underlying9
 a26:=Tryz.isAgg9
 z26:=Tryz.sizeOf9
 v26:=Tryz.zeroValue9
 t28:=underlying169
 a28:=Tryz.isAgg169
 z28:=Tryz.sizeOf169
 v28:=Tryz.zeroValue169
 i26:=by kernel_rfl }
def Tryz.sortA_ren:Go.Shelf.Ren:=⟨fun | 6=>135 | 8=>160 | 9=>159 | 19=>185 | 20=>186 | 21=>176 | 22=>177 | 23=>178 | 24=>179 | 25=>180 | 26=>181 | 27=>182 | 28=>183 | 29=>184 | 36=>200 | 31=>201 | 32=>202 | 37=>203 | 38=>204 | 39=>205 | 41=>214 | n=>n,fun | 27=>22 | 29=>9 | 3=>3 | 32=>180 | 26=>22 | 0=>0 | 44=>238 | 46=>178 | 4=>4 | 36=>232 | 35=>231 | 41=>143 | 5=>5 | 9=>9 | 53=>249 | 57=>253 | 63=>265 | 64=>266 | n=>n,fun | n=>n⟩
theorem Tryz.sortA:Go.Proofs.SlLaysM.n6 prog Tryz.sortA_ren:={
 mixed:=kr_
 f6:=⟨Tryz.f135.name,dc_,func135.trans (congrArg some kr_)⟩
 f8:=func160.trans (congrArg some kr_)
 f9:=⟨Tryz.f159.name,dc_,func159.trans (congrArg some kr_)⟩
 f19:=func185.trans (congrArg some kr_)
 f20:=func186.trans (congrArg some kr_)
 f21:=⟨Tryz.f176.name,dc_,func176.trans (congrArg some kr_)⟩
 f22:=⟨Tryz.f177.name,dc_,func177.trans (congrArg some kr_)⟩
 f23:=⟨Tryz.f178.name,dc_,func178.trans (congrArg some kr_)⟩
 f24:=⟨Tryz.f179.name,dc_,func179.trans (congrArg some kr_)⟩
 f25:=⟨Tryz.f180.name,dc_,func180.trans (congrArg some kr_)⟩
 f26:=⟨Tryz.f181.name,dc_,func181.trans (congrArg some kr_)⟩
 f27:=⟨Tryz.f182.name,dc_,func182.trans (congrArg some kr_)⟩
 f28:=⟨Tryz.f183.name,dc_,func183.trans (congrArg some kr_)⟩
 f29:=⟨Tryz.f184.name,dc_,func184.trans (congrArg some kr_)⟩
 f31:=func201.trans (congrArg some kr_)
 f32:=func202.trans (congrArg some kr_)
 f36:=⟨Tryz.f200.name,dc_,func200.trans (congrArg some kr_)⟩
 f37:=⟨Tryz.f203.name,dc_,func203.trans (congrArg some kr_)⟩
 f38:=⟨Tryz.f204.name,dc_,func204.trans (congrArg some kr_)⟩
 f39:=⟨Tryz.f205.name,dc_,func205.trans (congrArg some kr_)⟩
 f41:=⟨Tryz.f214.name,dc_,func214.trans (congrArg some kr_)⟩
 t0:=underlying0
 a0:=Tryz.isAgg0
 z0:=Tryz.sizeOf0
 v0:=Tryz.zeroValue0
 t3:=underlying3
 a3:=Tryz.isAgg3
 z3:=Tryz.sizeOf3
 v3:=Tryz.zeroValue3
 t4:=underlying4
 a4:=Tryz.isAgg4
 z4:=Tryz.sizeOf4
 v4:=Tryz.zeroValue4
 t5:=underlying5
 a5:=Tryz.isAgg5
 z5:=Tryz.sizeOf5
 v5:=Tryz.zeroValue5
 t9:=underlying9
 a9:=Tryz.isAgg9
 z9:=Tryz.sizeOf9
 v9:=Tryz.zeroValue9
 t26:=underlying22
 a26:=Tryz.isAgg22
 z26:=Tryz.sizeOf22
 v26:=Tryz.zeroValue22
 t27:=underlying22
 a27:=Tryz.isAgg22
 z27:=Tryz.sizeOf22
 v27:=Tryz.zeroValue22
 t29:=underlying9
 a29:=Tryz.isAgg9
 z29:=Tryz.sizeOf9
 v29:=Tryz.zeroValue9
 t32:=underlying180
 a32:=Tryz.isAgg180
 z32:=Tryz.sizeOf180
 v32:=Tryz.zeroValue180
 t35:=underlying231
 a35:=Tryz.isAgg231
 z35:=Tryz.sizeOf231
 v35:=Tryz.zeroValue231
 t36:=underlying232
 a36:=Tryz.isAgg232
 z36:=Tryz.sizeOf232
 v36:=Tryz.zeroValue232
 t41:=underlying143
 a41:=Tryz.isAgg143
 z41:=Tryz.sizeOf143
 v41:=Tryz.zeroValue143
 t44:=underlying238
 a44:=Tryz.isAgg238
 z44:=Tryz.sizeOf238
 v44:=Tryz.zeroValue238
 t46:=underlying178
 a46:=Tryz.isAgg178
 z46:=Tryz.sizeOf178
 v46:=Tryz.zeroValue178
 t53:=underlying249
 a53:=Tryz.isAgg249
 z53:=Tryz.sizeOf249
 v53:=Tryz.zeroValue249
 t57:=underlying253
 a57:=Tryz.isAgg253
 z57:=Tryz.sizeOf253
 v57:=Tryz.zeroValue253
 t63:=underlying265
 a63:=Tryz.isAgg265
 z63:=Tryz.sizeOf265
 v63:=Tryz.zeroValue265
 t64:=underlying266
 a64:=Tryz.isAgg266
 z64:=Tryz.sizeOf266
 v64:=Tryz.zeroValue266 }
def Tryz.keysB_ren:Go.Shelf.Ren:=⟨fun | 7=>100 | 10=>139 | n=>n,fun | 23=>85 | 26=>3 | 3=>96 | 28=>173 | 0=>0 | 27=>172 | 33=>38 | 4=>4 | n=>n,fun | n=>n⟩
theorem Tryz.keysB:Go.Proofs.SlLaysZI.n7 prog Tryz.keysB_ren:={
 mixed:=kr_
 f7:=⟨Tryz.f100.name,dc_,func100.trans (congrArg some kr_)⟩
 f10:=⟨Tryz.f139.name,dc_,func139.trans (congrArg some kr_)⟩
 t0:=underlying0
 a0:=Tryz.isAgg0
 z0:=Tryz.sizeOf0
 v0:=Tryz.zeroValue0
 t4:=underlying4
 a4:=Tryz.isAgg4
 z4:=Tryz.sizeOf4
 v4:=Tryz.zeroValue4
 t23:=underlying85
 a23:=Tryz.isAgg85
 z23:=Tryz.sizeOf85
 v23:=Tryz.zeroValue85
 t26:=underlying3
 a26:=Tryz.isAgg3
 z26:=Tryz.sizeOf3
 v26:=Tryz.zeroValue3
 t27:=underlying172
 a27:=Tryz.isAgg172
 z27:=Tryz.sizeOf172
 v27:=Tryz.zeroValue172
 t28:=underlying173
 a28:=Tryz.isAgg173
 z28:=Tryz.sizeOf173
 v28:=Tryz.zeroValue173
 t33:=underlying38
 a33:=Tryz.isAgg38
 z33:=Tryz.sizeOf38
 v33:=Tryz.zeroValue38 }
def Tryz.sortedB_ren:Go.Shelf.Ren:=⟨fun | 6=>99 | 8=>137 | 9=>138 | 11=>161 | 13=>160 | 12=>162 | 23=>185 | 24=>186 | 14=>187 | 15=>188 | 16=>189 | 17=>190 | 18=>191 | 19=>192 | 20=>193 | 21=>194 | 22=>195 | 25=>206 | 26=>201 | 27=>202 | 28=>207 | 29=>208 | 30=>209 | 31=>215 | n=>n,fun | 26=>3 | 28=>173 | 24=>149 | 0=>0 | 3=>3 | 37=>180 | 48=>238 | 50=>178 | 4=>4 | 40=>232 | 39=>231 | 45=>143 | 5=>5 | 9=>9 | 51=>249 | 55=>253 | 57=>265 | 58=>266 | 33=>38 | n=>n,fun | n=>n⟩
theorem Tryz.sortedB:Go.Proofs.SlLaysZI.n6 prog Tryz.sortedB_ren:={
 mixed:=kr_
 f6:=⟨Tryz.f99.name,dc_,func99.trans (congrArg some kr_)⟩
 f8:=⟨Tryz.f137.name,dc_,func137.trans (congrArg some kr_)⟩
 f11:=⟨Tryz.f161.name,dc_,func161.trans (congrArg some kr_)⟩
 t0:=underlying0
 a0:=Tryz.isAgg0
 z0:=Tryz.sizeOf0
 v0:=Tryz.zeroValue0
 t24:=underlying149
 a24:=Tryz.isAgg149
 z24:=Tryz.sizeOf149
 v24:=Tryz.zeroValue149
 t26:=underlying3
 a26:=Tryz.isAgg3
 z26:=Tryz.sizeOf3
 v26:=Tryz.zeroValue3
 t28:=underlying173
 a28:=Tryz.isAgg173
 z28:=Tryz.sizeOf173
 v28:=Tryz.zeroValue173
 i26:=by kernel_rfl }
def Tryz.sortB_ren:Go.Shelf.Ren:=⟨fun | 5=>138 | 8=>160 | 7=>162 | 19=>185 | 20=>186 | 10=>187 | 11=>188 | 12=>189 | 13=>190 | 14=>191 | 15=>192 | 16=>193 | 17=>194 | 18=>195 | 30=>206 | 31=>201 | 32=>202 | 33=>207 | 34=>208 | 35=>209 | 40=>215 | n=>n,fun | 23=>149 | 25=>3 | 3=>3 | 32=>180 | 22=>149 | 0=>0 | 44=>238 | 46=>178 | 4=>4 | 36=>232 | 35=>231 | 41=>143 | 5=>5 | 9=>9 | 53=>249 | 57=>253 | 63=>265 | 64=>266 | n=>n,fun | n=>n⟩
theorem Tryz.sortB:Go.Proofs.SlLaysM.n5 prog Tryz.sortB_ren:={
 mixed:=kr_
 f5:=⟨Tryz.f138.name,dc_,func138.trans (congrArg some kr_)⟩
 f7:=⟨Tryz.f162.name,dc_,func162.trans (congrArg some kr_)⟩
 f8:=func160.trans (congrArg some kr_)
 f10:=⟨Tryz.f187.name,dc_,func187.trans (congrArg some kr_)⟩
 f11:=⟨Tryz.f188.name,dc_,func188.trans (congrArg some kr_)⟩
 f12:=⟨Tryz.f189.name,dc_,func189.trans (congrArg some kr_)⟩
 f13:=⟨Tryz.f190.name,dc_,func190.trans (congrArg some kr_)⟩
 f14:=⟨Tryz.f191.name,dc_,func191.trans (congrArg some kr_)⟩
 f15:=⟨Tryz.f192.name,dc_,func192.trans (congrArg some kr_)⟩
 f16:=⟨Tryz.f193.name,dc_,func193.trans (congrArg some kr_)⟩
 f17:=⟨Tryz.f194.name,dc_,func194.trans (congrArg some kr_)⟩
 f18:=⟨Tryz.f195.name,dc_,func195.trans (congrArg some kr_)⟩
 f19:=func185.trans (congrArg some kr_)
 f20:=func186.trans (congrArg some kr_)
 f30:=⟨Tryz.f206.name,dc_,func206.trans (congrArg some kr_)⟩
 f31:=func201.trans (congrArg some kr_)
 f32:=func202.trans (congrArg some kr_)
 f33:=⟨Tryz.f207.name,dc_,func207.trans (congrArg some kr_)⟩
 f34:=⟨Tryz.f208.name,dc_,func208.trans (congrArg some kr_)⟩
 f35:=⟨Tryz.f209.name,dc_,func209.trans (congrArg some kr_)⟩
 f40:=⟨Tryz.f215.name,dc_,func215.trans (congrArg some kr_)⟩
 t0:=underlying0
 a0:=Tryz.isAgg0
 z0:=Tryz.sizeOf0
 v0:=Tryz.zeroValue0
 t3:=underlying3
 a3:=Tryz.isAgg3
 z3:=Tryz.sizeOf3
 v3:=Tryz.zeroValue3
 t4:=underlying4
 a4:=Tryz.isAgg4
 z4:=Tryz.sizeOf4
 v4:=Tryz.zeroValue4
 t5:=underlying5
 a5:=Tryz.isAgg5
 z5:=Tryz.sizeOf5
 v5:=Tryz.zeroValue5
 t9:=underlying9
 a9:=Tryz.isAgg9
 z9:=Tryz.sizeOf9
 v9:=Tryz.zeroValue9
 t22:=underlying149
 a22:=Tryz.isAgg149
 z22:=Tryz.sizeOf149
 v22:=Tryz.zeroValue149
 t23:=underlying149
 a23:=Tryz.isAgg149
 z23:=Tryz.sizeOf149
 v23:=Tryz.zeroValue149
 t25:=underlying3
 a25:=Tryz.isAgg3
 z25:=Tryz.sizeOf3
 v25:=Tryz.zeroValue3
 t32:=underlying180
 a32:=Tryz.isAgg180
 z32:=Tryz.sizeOf180
 v32:=Tryz.zeroValue180
 t35:=underlying231
 a35:=Tryz.isAgg231
 z35:=Tryz.sizeOf231
 v35:=Tryz.zeroValue231
 t36:=underlying232
 a36:=Tryz.isAgg232
 z36:=Tryz.sizeOf232
 v36:=Tryz.zeroValue232
 t41:=underlying143
 a41:=Tryz.isAgg143
 z41:=Tryz.sizeOf143
 v41:=Tryz.zeroValue143
 t44:=underlying238
 a44:=Tryz.isAgg238
 z44:=Tryz.sizeOf238
 v44:=Tryz.zeroValue238
 t46:=underlying178
 a46:=Tryz.isAgg178
 z46:=Tryz.sizeOf178
 v46:=Tryz.zeroValue178
 t53:=underlying249
 a53:=Tryz.isAgg249
 z53:=Tryz.sizeOf249
 v53:=Tryz.zeroValue249
 t57:=underlying253
 a57:=Tryz.isAgg253
 z57:=Tryz.sizeOf253
 v57:=Tryz.zeroValue253
 t63:=underlying265
 a63:=Tryz.isAgg265
 z63:=Tryz.sizeOf265
 v63:=Tryz.zeroValue265
 t64:=underlying266
 a64:=Tryz.isAgg266
 z64:=Tryz.sizeOf266
 v64:=Tryz.zeroValue266 }
end Go.Proofs
