import Derived.WalkKit
import Derived.Test.YthfmmimmfcnhmaaGreatDoorProg
import Derived.Deep.RegionHeld3
import Derived.WalkSpells
import Derived.WalkLawsBesides
import Derived.Laws.BytesArg
import Derived.Deep.RegionWith
import Derived.Deep.QuietTactic
import Derived.BigQuiet
import Derived.Laws.Cover1
import Derived.Lib.Bytealg
import GoSem.Claim
import GoSem.ClaimJoined
import Derived.JoinedTies
import Derived.KernelRfl
import Derived.RowKit
import Derived.Laws.Externs
import Derived.Laws.BitsAllLaws
import Derived.Deep.RegionLaw
import Derived.Shelf.Strings.Split
import Derived.Shelf.Strings.Cut
import Derived.Shelf.Small.Strs
import Derived.Lib.IndexBytes
import Derived.Lib.IndexLaws
import Derived.Lib.Split
import Derived.Lib.CountLaws
import Derived.Outline
import Derived.Laws.Rows
import Derived.Laws.IdiomCopy
import Derived.Shelf.Strings.Builder1
import Derived.Shelf.Strconv.Itoa3
import Derived.LaidEql
import Derived.Stop.Asserts
import Derived.RowKitTokens
import Derived.Laws.OwnMore
set_option maxHeartbeats 8000000
set_option maxRecDepth 100000
namespace Go.Proofs.YthfmmimmfcnhmaaGreatDoor
variable {α:Type} {P:Program} {ops:Array Oper} {md:Region.Mode} {fuel i:Nat} {listed:Array Bool} {a:Act} {w:World} {o oi:Oper} {v:Value} {d:Option Nat} {op:Op} {ty:TypeId} {p:String} {af:Array Edge}
theorem qq:(∀ (a:Act) (d:Nat) (v:Value),a.put (some d) v={ a with tmps:=a.tmps.setIfInBounds d v })/\(∀ (a:Act) (v:Value),a.put none v=a)/\(∀ {α:Type} (l:List α) (i:Nat) (a:α),l.toArray.setIfInBounds i a=(l.set i a).toArray)/\(∀ {α:Type} (x:α) (l:List α) (a:α),(x::l).set 0 a=a::l)/\∀ {α:Type} (x:α) (l:List α) (i:Nat) (a:α),(x::l).set (i+1) a=x::l.set i a:=⟨fun _ _ _=>rfl,fun _ _=>rfl,fun _ _ _=>List.setIfInBounds_toArray ..,fun _ _ _=>rfl,fun _ _ _ _=>rfl⟩
theorem rd {Q:Exit->Act->World->Prop} {S:World->Prop} (ho:ops[i]?=some o) (hr:Region.ready md ops listed=[i]) (h:∀ K':Act->World->Prop,Shut (∀ a w,S w->(S w->wpAnyH P md ops Q S fuel (listed.setIfInBounds i true) a w)->K' a w)->if Region.wanted o (yielded ops a.tmps)=true then Oper.wp P o a w K' Q else K' (a.put o.dst undef) w):wpAnyH P md ops Q S (fuel+1) listed a w:=wpAnyH_ready hr (by simp) (AllReadyH.cons ho h AllReadyH.nil)
theorem tk {Q:Exit->Act->World->Prop} {S:World->Prop} (hi:ops[i]?=some oi) (hb:(Region.noSelect ops&&Region.free md ops listed i&&(Region.ready md ops listed).contains i)=true) (hw:Region.wanted oi (yielded ops a.tmps)=true) (hv:∀ u,S u->(execOp a.eval oi).run P u=.ok (.value v) u) (hS:S w) (h:wpAnyH P md ops Q S fuel (listed.setIfInBounds i true) (a.put oi.dst v) w) (hQ:∀ c a w,Q (.panic c) (a.put oi.dst v) w->Q (.panic c) a w:=by exact fun _ _ _ h=>h):wpAnyH P md ops Q S (fuel+1) listed a w:=by
  simp only [Bool.and_eq_true] at hb
  exact wpAnyH_take hi hb.1.1 hb.1.2 hb.2 hQ (.inl ⟨hw,hv⟩) hS h
theorem tu {Q:Exit->Act->World->Prop} {S:World->Prop} (hi:ops[i]?=some oi) (hb:(Region.noSelect ops&&Region.free md ops listed i&&(Region.ready md ops listed).contains i)=true) (hw:Region.wanted oi (yielded ops a.tmps)=false) (hS:S w) (h:wpAnyH P md ops Q S fuel (listed.setIfInBounds i true) (a.put oi.dst undef) w) (hQ:∀ c a w,Q (.panic c) (a.put oi.dst undef) w->Q (.panic c) a w:=by exact fun _ _ _ h=>h):wpAnyH P md ops Q S (fuel+1) listed a w:=by
  simp only [Bool.and_eq_true] at hb
  exact wpAnyH_take hi hb.1.1 hb.1.2 hb.2 hQ (.inr ⟨hw,rfl⟩) hS h
theorem tq {Q:Exit->Act->World->Prop} {S:World->Prop} {g:Option (Nat×Bool)} (i:Nat) (hS:S w) (h:wpAnyH P md ops Q S fuel (listed.setIfInBounds i true) (a.put d v) w) (hi:ops[i]?=some ⟨d,op,ty,p,af,g⟩:=by exact rfl) (hb:(Region.noSelect ops&&Region.free md ops listed i&&(Region.ready md ops listed).contains i)=true:=by kernel_rfl) (hw:Region.wanted ⟨d,op,ty,p,af,g⟩ (yielded ops a.tmps)=true:=by exact rfl) (hv:∀ u,S u->(execOp a.eval ⟨d,op,ty,p,af,g⟩).run P u=.ok (.value v) u:=by intro wq hSw;(try dsimp only at hSw);go_simp;try with_reducible rfl) (hQ:∀ c a w,Q (.panic c) (a.put d v) w->Q (.panic c) a w:=by first | exact fun _ _ _ h=>h | exact fun _ _ _ h=>hQ _ _ _ _ _ h):wpAnyH P md ops Q S (fuel+1) listed a w:=tk hi hb hw hv hS h hQ
theorem uq {Q:Exit->Act->World->Prop} {S:World->Prop} {g:Option (Nat×Bool)} (i:Nat) (hS:S w) (h:wpAnyH P md ops Q S fuel (listed.setIfInBounds i true) (a.put d undef) w) (hi:ops[i]?=some ⟨d,op,ty,p,af,g⟩:=by exact rfl) (hb:(Region.noSelect ops&&Region.free md ops listed i&&(Region.ready md ops listed).contains i)=true:=by kernel_rfl) (hw:Region.wanted ⟨d,op,ty,p,af,g⟩ (yielded ops a.tmps)=false:=by exact rfl) (hQ:∀ c a w,Q (.panic c) (a.put d undef) w->Q (.panic c) a w:=by first | exact fun _ _ _ h=>h | exact fun _ _ _ h=>hQ _ _ _ _ _ h):wpAnyH P md ops Q S (fuel+1) listed a w:=tu hi hb hw hS h hQ
theorem rq {Q:Exit->Act->World->Prop} {S:World->Prop} {g:Option (Nat×Bool)} (i:Nat) (h:∀ K':Act->World->Prop,Shut (∀ a w,S w->(S w->wpAnyH P md ops Q S fuel (listed.setIfInBounds i true) a w)->K' a w)->if Region.wanted ⟨d,op,ty,p,af,g⟩ (yielded ops a.tmps)=true then Oper.wp P ⟨d,op,ty,p,af,g⟩ a w K' Q else K' (a.put d undef) w) (ho:ops[i]?=some ⟨d,op,ty,p,af,g⟩:=by exact rfl) (hr:Region.ready md ops listed=[i]:=by kernel_rfl):wpAnyH P md ops Q S (fuel+1) listed a w:=rd ho hr h
end Go.Proofs.YthfmmimmfcnhmaaGreatDoor
namespace Go.Proofs.YthfmmimmfcnhmaaGreatDoor
open Proofs.Tryz
open Go.RowKit
variable {a l r:List UInt8} {b s:ByteArray} {B g k n size:Nat} {w:World} {c y:Int} {ls ss:List (List UInt8)} {p:Addr} {e:TypeId} {xs:List Value}
def isGraph (c:UInt8):Bool:=decide (33<=(c.toNat:Int)/\(c.toNat:Int)<=126)
def nameOk (l:List UInt8):Bool:=decide (1<=l.length/\l.length<=20)&&l.all isGraph
theorem graph_iff (c:UInt8):isGraph c=true↔33<=(c.toNat:Int)/\(c.toNat:Int)<=126:=by simp [isGraph]
theorem take_snoc (s:ByteArray) (k:Nat) (h:k<s.size):s.data.toList.take (k+1)=s.data.toList.take k++[s[k]]:=by
 rw [List.take_succ_eq_append_getElem (by simpa using h)];rfl
theorem ret_bool {a b:Bool} (h:a=b):Ending.returned (.bool a)=.returned (.bool b):=by rw [h]
theorem c32 (n l h:Int) (w:World):
 Calls prog 32 #[.int .i64 n,.int .i64 l,.int .i64 h] w fun e w'=>e=.returned (.bool (decide (l<=n/\n<=h)))/\w'=w:=by
 by_cases h1:l<=n <;> by_cases h2:n<=h
 all_goals
  go_enter func32,ntmps32
  go_wp2
  all_goals go_ret
  all_goals exact ⟨by simp [*],rfl⟩
theorem all_take_snoc (p:UInt8->Bool) (s:ByteArray) (k:Nat) (h:k<s.size) (ha:(s.data.toList.take k).all p=true) (hp:p s[k]=true):(s.data.toList.take (k+1)).all p=true:=by
 rw [take_snoc s k h,List.all_append,ha];simpa using hp
theorem all_false_at (p:UInt8->Bool) (s:ByteArray) (k:Nat) (h:k<s.size) (hp:p s[k]=false):s.data.toList.all p=false:=by
 rw [List.all_eq_false]
 exact ⟨s[k],by simp [ByteArray.getElem_eq_getElem_data],by simp [hp]⟩
theorem all_take_size (p:UInt8->Bool) (s:ByteArray) (k:Nat) (h:s.size<=k) (ha:(s.data.toList.take k).all p=true):s.data.toList.all p=true:=by
 rwa [List.take_of_length_le (by simpa using h)] at ha
theorem name_short (s:ByteArray) (h:¬ (1<=s.size/\s.size<=20)):nameOk s.data.toList=false:=by
 unfold nameOk
 have:(decide (1<=s.data.toList.length/\s.data.toList.length<=20))=false:=by
  simp only [decide_eq_false_iff_not];simpa using h
 rw [this];rfl
theorem name_long (s:ByteArray) (h:1<=s.size/\s.size<=20):nameOk s.data.toList=s.data.toList.all isGraph:=by
 unfold nameOk
 have:(decide (1<=s.data.toList.length/\s.data.toList.length<=20))=true:=by
  simp only [decide_eq_true_eq];simpa using h
 rw [this];rfl
theorem c20 (s:ByteArray) (w:World) (hs:s.size<=1048700):
 Calls prog 20 #[.string s] w fun e w'=>e=.returned (.bool (nameOk s.data.toList))/\w'=w:=by
 by_cases h:1<=s.size/\s.size<=20
 rotate_left
 · have hN:Hid (nameOk s.data.toList=false):=name_short s h
   by_cases h1:1<=s.size
   all_goals
    go_enter func20,ntmps20
    go_wp2
    all_goals go_ret
    all_goals exact ⟨ret_bool (by rw [hN.out]),rfl⟩
 have hN:Hid (nameOk s.data.toList=s.data.toList.all isGraph):=name_long s h
 obtain ⟨h1,h2⟩:=h
 go_enter func20,ntmps20
 go_wp2
 go_loop [14] (fun i=>∃ k:Nat,k<=s.size/\i=.int .i64 k/\Hid ((s.data.toList.take k).all isGraph=true)) (fun i=>s.size - (intOf i).toNat)
 case atStart=>exact ⟨0,Nat.zero_le _,rfl,rfl⟩
 obtain ⟨k,hk,rfl,ha⟩:=hrel
 by_cases hlt:k<s.size
 rotate_left
 · go_wp2
   go_ret
   exact ⟨ret_bool (by rw [hN.out,all_take_size _ s k (by omega) ha.out]),rfl⟩
 by_cases hg:isGraph s[k]=true
 · have hg':=(graph_iff _).1 hg
   have hn:=Hid.out ha
   have ha':Hid ((s.data.toList.take (k+1)).all isGraph=true):=all_take_snoc _ s k hlt ha.out hg
   clear hg hn
   go_wp2
   go_round
   case rel=>exact ⟨k+1,by omega,by go_num,ha'⟩
   case measure=>simp [intOf];omega
 have hf:Hid (s.data.toList.all isGraph=false):=all_false_at _ s k hlt (by simpa using hg)
 have hg':(s[k].toNat:Int)<33\/126<(s[k].toNat:Int):=by
  rcases Int.lt_or_le (s[k].toNat:Int) 33 with h | h
  · exact .inl h
  rcases Int.lt_or_le 126 (s[k].toNat:Int) with h' | h'
  · exact .inr h'
  exact absurd ((graph_iff _).2 ⟨h,h'⟩) hg
 clear hg
 rcases hg' with hg | hg
 all_goals
  go_wp2
  all_goals go_ret
  all_goals exact ⟨ret_bool (by rw [hN.out,hf.out]),rfl⟩
theorem c15 (s:ByteArray) (w:World) (hs:s.size<=1048700):
 Calls prog 15 #[.string s] w fun e w'=>e=.returned (.bool (nameOk s.data.toList))/\w'=w:=by
 by_cases h:1<=s.size/\s.size<=20
 rotate_left
 · have hN:Hid (nameOk s.data.toList=false):=name_short s h
   have hd:decide ((1:Int)<=(s.size:Int)/\(s.size:Int)<=20)=false:=by simp only [decide_eq_false_iff_not];omega
   go_enter func15,ntmps15
   go_wp2_with fail
   refine (c32 _ _ _ _).mono ?_
   rintro e w' ⟨rfl,rfl⟩
   rw [hd]
   go_wp2
   go_ret
   exact ⟨ret_bool (by rw [hN.out]),rfl⟩
 have hN:Hid (nameOk s.data.toList=s.data.toList.all isGraph):=name_long s h
 have hd:decide ((1:Int)<=(s.size:Int)/\(s.size:Int)<=20)=true:=by simp;omega
 go_enter func15,ntmps15
 go_wp2_with fail
 refine (c32 _ _ _ _).mono ?_
 rintro e w' ⟨rfl,rfl⟩
 rw [hd]
 go_wp2
 go_loop [3] (fun i=>∃ k:Nat,k<=s.size/\i=.int .i64 k/\Hid ((s.data.toList.take k).all isGraph=true)) (fun i=>s.size - (intOf i).toNat)
 case atStart=>exact ⟨0,Nat.zero_le _,rfl,rfl⟩
 obtain ⟨k,hk,rfl,ha⟩:=hrel
 by_cases hlt:k<s.size
 rotate_left
 · go_wp2
   go_ret
   exact ⟨ret_bool (by rw [hN.out,all_take_size _ s k (by omega) ha.out]),rfl⟩
 by_cases hg:isGraph s[k]=true
 · have hg':=(graph_iff _).1 hg
   have ha':Hid ((s.data.toList.take (k+1)).all isGraph=true):=all_take_snoc _ s k hlt ha.out hg
   clear hg
   go_wp2
   go_round
   case rel=>exact ⟨k+1,by omega,by go_num,ha'⟩
   case measure=>simp [intOf];omega
 have hf:Hid (s.data.toList.all isGraph=false):=all_false_at _ s k hlt (by simpa using hg)
 have hg':(s[k].toNat:Int)<33\/126<(s[k].toNat:Int):=by
  rcases Int.lt_or_le (s[k].toNat:Int) 33 with h | h
  · exact .inl h
  rcases Int.lt_or_le 126 (s[k].toNat:Int) with h' | h'
  · exact .inr h'
  exact absurd ((graph_iff _).2 ⟨h,h'⟩) hg
 clear hg
 rcases hg' with hg | hg
 all_goals
  go_wp2
  all_goals go_ret
  all_goals exact ⟨ret_bool (by rw [hN.out,hf.out]),rfl⟩
theorem adr_ne {i j:Nat} (h:i≠j):(⟨B,i,none⟩:Addr)≠⟨B,j,none⟩:=by intro e;injection e with _ e;exact h e
theorem set2_at (u:World) (B j:Nat) (v0 v1 x0 x1:Value) (h0:u.cell? ⟨B,j,none⟩=some x0) (h1:u.cell? ⟨B,j+1,none⟩=some x1):
 ((u.setCell ⟨B,j,none⟩ v0).setCell ⟨B,j+1,none⟩ v1).cell? ⟨B,j,none⟩=some v0/\((u.setCell ⟨B,j,none⟩ v0).setCell ⟨B,j+1,none⟩ v1).cell? ⟨B,j+1,none⟩=some v1:=by
 have a1:(u.setCell ⟨B,j,none⟩ v0).cell? ⟨B,j+1,none⟩=some x1:=by rw [World.cell?_setCell_other _ _ _ _ (adr_ne (by omega))];exact h1
 refine ⟨?_,World.cell?_setCell_same _ _ _ a1⟩
 rw [World.cell?_setCell_other _ _ _ _ (adr_ne (by omega))];exact World.cell?_setCell_same _ _ _ h0
theorem wrap_nat (q:Nat) (h:q<1048577):IntKind.i64.wrap (q:Int)=(q:Int):=by
 have h1:(q:Int) % 2 ^ 64=q:=by omega
 simp only [IntKind.wrap,IntKind.bits,IntKind.signed,h1]
 rw [if_neg (by simp;omega)]
def isDig (c:UInt8):Bool:=decide (48<=(c.toNat:Int)/\(c.toNat:Int)<=57)
def vstep (n:Int) (c:UInt8):Int:=n*10+((c.toNat:Int) - 48)
def val (l:List UInt8):Int:=l.foldl vstep 0
theorem val_snoc (l:List UInt8) (c:UInt8):val (l++[c])=val l*10+((c.toNat:Int) - 48):=by simp [val,vstep]
theorem dig_iff (c:UInt8):isDig c=true↔48<=(c.toNat:Int)/\(c.toNat:Int)<=57:=by simp [isDig]
theorem snoc_ind {P:List UInt8->Prop} (h0:P []) (h1:∀ l c,P l->P (l++[c])) (l:List UInt8):P l:=by
 have h:∀ r:List UInt8,P r.reverse:=fun r=>by
  induction r with
  | nil=>exact h0
  | cons c r ih=>rw [List.reverse_cons];exact h1 _ _ ih
 have:=h l.reverse
 rwa [List.reverse_reverse] at this
theorem val_nonneg (l:List UInt8):l.all isDig=true->0<=val l:=by
 refine snoc_ind (P:=fun l=>l.all isDig=true->0<=val l) (by simp [val]) (fun l c ih h=>?_) l
 rw [List.all_append] at h
 simp only [List.all_cons,List.all_nil,Bool.and_true,Bool.and_eq_true] at h
 have:=ih h.1
 have hc:=(dig_iff c).1 h.2
 rw [val_snoc];omega
def lean1 (l:List UInt8):Bool:=!l.isEmpty&&!(l.headD 0==48&&!(l==[48]))
def num40 (l:List UInt8):Bool:=lean1 l&&l.all isDig&&decide (val l<=40)
def decF:Nat->Int->List UInt8
 | 0,_=>[]
 | f+1,n=>if n<10 then [UInt8.ofNat (48+n).toNat] else decF f (n / 10)++[UInt8.ofNat (48+n % 10).toNat]
def dec (n:Int):List UInt8:=decF (n.toNat+1) n
theorem decF_any (f g:Nat) (n:Int) (h0:0<=n) (hf:n.toNat<f) (hg:n.toNat<g):decF f n=decF g n:=by
 induction f generalizing g n with
 | zero=>omega
 | succ f ih=>
  cases g with
  | zero=>omega
  | succ g=>
   simp only [decF]
   by_cases h:n<10
   · rw [if_pos h,if_pos h]
   rw [if_neg h,if_neg h,ih g (n / 10) (by omega) (by omega) (by omega)]
theorem dec_lt (n:Int) (h:n<10):dec n=[UInt8.ofNat (48+n).toNat]:=by simp [dec,decF,h]
theorem dec_ge (n:Int) (h:10<=n):dec n=dec (n / 10)++[UInt8.ofNat (48+n % 10).toNat]:=by
 unfold dec
 rw [decF,if_neg (by omega),decF_any n.toNat ((n / 10).toNat+1) (n / 10) (by omega) (by omega) (by omega)]
theorem dec_ne (n:Int):dec n≠[]:=by
 by_cases h:n<10
 · rw [dec_lt n h];simp
 rw [dec_ge n (by omega)];simp
theorem ofNat_dig (c:UInt8) (h:isDig c=true):UInt8.ofNat (48+((c.toNat:Int) - 48)).toNat=c:=by
 have:=(dig_iff c).1 h
 rw [show (48+((c.toNat:Int) - 48)).toNat=c.toNat by omega]
 exact UInt8.ofNat_toNat
theorem dec_val (l:List UInt8):l.all isDig=true->lean1 l=true->dec (val l)=l/\(2<=l.length->10<=val l)/\(l.headD 0≠48->1<=val l):=by
 refine snoc_ind (P:=fun l=>l.all isDig=true->lean1 l=true->dec (val l)=l/\(2<=l.length->10<=val l)/\(l.headD 0≠48->1<=val l)) (by simp [lean1]) (fun l c ih h hl=>?_) l
 rw [List.all_append] at h
 simp only [List.all_cons,List.all_nil,Bool.and_true,Bool.and_eq_true] at h
 have hc:=(dig_iff c).1 h.2
 have hd:=ofNat_dig c h.2
 cases l with
 | nil=>
  have e:val ([]++[c])=(c.toNat:Int) - 48:=by rw [val_snoc];simp [val]
  rw [e]
  refine ⟨?_,by simp,?_⟩
  · rw [dec_lt _ (by omega),hd];rfl
  intro h1
  simp at h1
  have:c.toNat≠48:=fun e=>h1 (by rw [<- UInt8.toNat_inj];exact e)
  omega
 | cons a r=>
  have ha:a≠48:=by
   intro e
   subst e
   simp [lean1] at hl
  have hl':lean1 (a::r)=true:=by simp [lean1,ha]
  obtain ⟨h1,_,h3⟩:=ih h.1 hl'
  have h4:=h3 (by simpa using ha)
  rw [val_snoc]
  have hdiv:(val (a::r)*10+((c.toNat:Int) - 48)) / 10=val (a::r):=by omega
  have hmod:(val (a::r)*10+((c.toNat:Int) - 48)) % 10=(c.toNat:Int) - 48:=by omega
  refine ⟨?_,fun _=>by omega,fun _=>by omega⟩
  rw [dec_ge _ (by omega),hdiv,hmod,h1,hd]
theorem dec_lean (f:Nat) (n:Int) (h0:0<=n) (hf:n.toNat<f):lean1 (dec n)=true/\(1<=n->(dec n).headD 0≠48):=by
 induction f generalizing n with
 | zero=>omega
 | succ f ih=>
  by_cases h:n<10
  · rw [dec_lt n h]
    obtain rfl | rfl | rfl | rfl | rfl | rfl | rfl | rfl | rfl | rfl:n=0\/n=1\/n=2\/n=3\/n=4\/n=5\/n=6\/n=7\/n=8\/n=9:=by omega
    all_goals decide
  obtain ⟨h1,h2⟩:=ih (n / 10) (by omega) (by omega)
  have h3:=h2 (by omega)
  rw [dec_ge n (by omega)]
  have hne:=dec_ne (n / 10)
  generalize dec (n / 10)=l at*
  cases l with
  | nil=>exact absurd rfl hne
  | cons a r=>
   have ha:a≠48:=by simpa using h3
   exact ⟨by simp [lean1,ha],fun _=>by simpa using ha⟩
theorem val_dig_len (l:List UInt8) (h:l.all isDig=true) (hl:lean1 l=true) (h40:val l<=40):l.length<=2:=by
 rcases Nat.lt_or_ge 2 l.length with h2 | h2
 rotate_left
 · exact h2
 exfalso
 rcases List.eq_nil_or_concat l with e | ⟨r,c,e⟩
 · subst e;simp at h2
 rw [List.concat_eq_append] at e
 subst e
 rw [List.all_append] at h
 simp only [List.all_cons,List.all_nil,Bool.and_true,Bool.and_eq_true] at h
 have hr:2<=r.length:=by simp at h2;omega
 cases r with
 | nil=>simp at hr
 | cons a r=>
  have ha:a≠48:=by
   intro e
   subst e
   simp [lean1] at hl
  have:=(dec_val (a::r) h.1 (by simp [lean1,ha])).2.1 hr
  have hc:=(dig_iff c).1 h.2
  rw [val_snoc] at h40
  omega
theorem decF_len (f:Nat) (n:Int):(decF f n).length<=f:=by
 induction f generalizing n with
 | zero=>simp [decF]
 | succ f ih=>
  simp only [decF]
  by_cases h:n<10
  · rw [if_pos h];simp
  rw [if_neg h];have:=ih (n / 10);simp;omega
theorem dec_len (n:Int) (h:0<=n) (h1:n<=100000000):(dec n).length<=100000001:=by
 have:=decF_len (n.toNat+1) n
 unfold dec;omega
structure M3 where
 nm:ByteArray
 tl:ByteArray
 ar:ByteArray
def m3z:M3:=⟨⟨#[]⟩,⟨#[]⟩,⟨#[]⟩⟩
def M3.v (x:M3):Value:=.agg #[.string x.nm,.string x.tl,.string x.ar]
def M3.le (x:M3) (B:Nat):Prop:=x.nm.size<=B/\x.tl.size<=B/\x.ar.size<=B
theorem set3_at (u:World) (B j:Nat) (v0 v1 v2 x0 x1 x2:Value) (h0:u.cell? ⟨B,j,none⟩=some x0) (h1:u.cell? ⟨B,j+1,none⟩=some x1) (h2:u.cell? ⟨B,j+2,none⟩=some x2):
 (((u.setCell ⟨B,j,none⟩ v0).setCell ⟨B,j+1,none⟩ v1).setCell ⟨B,j+2,none⟩ v2).cell? ⟨B,j,none⟩=some v0/\(((u.setCell ⟨B,j,none⟩ v0).setCell ⟨B,j+1,none⟩ v1).setCell ⟨B,j+2,none⟩ v2).cell? ⟨B,j+1,none⟩=some v1/\(((u.setCell ⟨B,j,none⟩ v0).setCell ⟨B,j+1,none⟩ v1).setCell ⟨B,j+2,none⟩ v2).cell? ⟨B,j+2,none⟩=some v2:=by
 have a1:(u.setCell ⟨B,j,none⟩ v0).cell? ⟨B,j+1,none⟩=some x1:=by rw [World.cell?_setCell_other _ _ _ _ (adr_ne (by omega))];exact h1
 have a2:((u.setCell ⟨B,j,none⟩ v0).setCell ⟨B,j+1,none⟩ v1).cell? ⟨B,j+2,none⟩=some x2:=by
  rw [World.cell?_setCell_other _ _ _ _ (adr_ne (by omega)),World.cell?_setCell_other _ _ _ _ (adr_ne (by omega))];exact h2
 refine ⟨?_,?_,World.cell?_setCell_same _ _ _ a2⟩
 · rw [World.cell?_setCell_other _ _ _ _ (adr_ne (by omega)),World.cell?_setCell_other _ _ _ _ (adr_ne (by omega))];exact World.cell?_setCell_same _ _ _ h0
 rw [World.cell?_setCell_other _ _ _ _ (adr_ne (by omega))];exact World.cell?_setCell_same _ _ _ a1
theorem conv1 (u:World) (y:Int):(convert 103 9 (.slice (some ⟨u.heap.size,0,none⟩) 1 1)).run prog (u.alloc (.cells #[.int .u8 y] 5))=.ok (.string (strOfNums [y])) (u.alloc (.cells #[.int .u8 y] 5)):=
 run_convert_bytes_arg _ 103 5 underlying103 underlying5 _ 0 1 1 [y] rfl (fun i hi=>by
  obtain rfl:i=0:=by omega
  simp) 9 underlying9
theorem convD (u:World) (y:Int):(convert 103 9 (.slice (some ⟨u.heap.size,0,none⟩) 1 1)).run prog (u.alloc (.cells #[.int .u8 y] 5)).drew=.ok (.string (strOfNums [y])) (u.alloc (.cells #[.int .u8 y] 5)).drew:=
 run_convert_bytes_arg _ 103 5 underlying103 underlying5 _ 0 1 1 [y] rfl (fun i hi=>by
  obtain rfl:i=0:=by omega
  simp) 9 underlying9
theorem convB {u w1:World} (hb:Below (u.alloc (.cells #[.int .u8 y] 5)).drew.heap.size (u.alloc (.cells #[.int .u8 y] 5)).drew w1):
 (convert 103 9 (.slice (some ⟨u.heap.size,0,none⟩) 1 1)).run prog w1=.ok (.string (strOfNums [y])) w1:=
 run_convert_bytes_arg _ 103 5 underlying103 underlying5 _ 0 1 1 [y] rfl (fun i hi=>by
  obtain rfl:i=0:=by omega
  rw [hb.cell (by simp)]
  simp) 9 underlying9
def ofL (l:List UInt8):ByteArray:=⟨l.toArray⟩
theorem ofL_size (l:List UInt8):(ofL l).size=l.length:=by simp [ofL,ByteArray.size]
def okM (x:M3):Bool:=nameOk x.nm.data.toList&&nameOk x.tl.data.toList&&decide ((x.ar.size:Int)<=300)
theorem c83 (x:M3) (w:World) (hs:x.le 1048700):
 Calls prog 83 #[.agg #[.string x.nm,.string x.tl,.string x.ar]] w fun e w'=>e=.returned (.bool (okM x))/\Below w.heap.size w w':=by
 have HF:Hid (okM x=(nameOk x.nm.data.toList&&nameOk x.tl.data.toList&&decide ((x.ar.size:Int)<=300))):=rfl
 obtain ⟨h1,h2,h3⟩:=hs
 go_enter func83,ntmps83
 go_wp2_with fail
 refine (c15 _ _ h1).mono ?_
 rintro e w1 ⟨rfl,rfl⟩
 cases hn:nameOk x.nm.data.toList
 · rw [hn] at HF
   go_wp2
   all_goals go_ret
   all_goals exact ⟨ret_bool (by rw [HF.out];simp),(Below.refl _ _).alloc (Nat.le_refl _) _⟩
 rw [hn] at HF
 go_wp2_with fail
 refine (c15 _ _ h2).mono ?_
 rintro e w1 ⟨rfl,rfl⟩
 cases hm:nameOk x.tl.data.toList
 all_goals
  rw [hm] at HF
  go_wp2
  all_goals go_ret
  all_goals exact ⟨ret_bool (by rw [HF.out];simp),(Below.refl _ _).alloc (Nat.le_refl _) _⟩
theorem c83v {x:M3} {v:Bool} (hv:okM x=v) (w:World) (hs:x.le 1048700):
 Calls prog 83 #[.agg #[.string x.nm,.string x.tl,.string x.ar]] w fun e w'=>e=.returned (.bool v)/\Below w.heap.size w w':=hv▸c83 x w hs
def cst (b:UInt8) (p:List (List UInt8)×List UInt8) (c:UInt8):List (List UInt8)×List UInt8:=if c=b then (p.1++[p.2],[]) else (p.1,p.2++[c])
def cstate (b:UInt8) (l:List UInt8):List (List UInt8)×List UInt8:=l.foldl (cst b) ([],[])
def cutS (b:UInt8) (l:List UInt8):List (List UInt8):=(cstate b l).1++[(cstate b l).2]
theorem cstate_snoc (b:UInt8) (l:List UInt8) (c:UInt8):cstate b (l++[c])=cst b (cstate b l) c:=by simp [cstate]
theorem cstate_len (b:UInt8) (l:List UInt8) (p:List (List UInt8)×List UInt8):(l.foldl (cst b) p).1.length<=p.1.length+l.length:=by
 induction l generalizing p with
 | nil=>simp
 | cons c l ih=>
  have:=ih (cst b p c)
  have h2:(cst b p c).1.length<=p.1.length+1:=by unfold cst;split <;> simp
  simp only [List.foldl_cons,List.length_cons];omega
theorem cstate_le (b:UInt8) (l:List UInt8):(cstate b l).1.length<=l.length:=by have:=cstate_len b l ([],[]);simpa [cstate] using this
def strL (ss:List (List UInt8)):List Value:=ss.map fun l=>.string (ofL l)
theorem strL_snoc (ss:List (List UInt8)) (l:List UInt8):strL (ss++[l])=strL ss++[.string (ofL l)]:=by simp [strL]
def LinesAt (w:World) (g:Nat) (ss:List (List UInt8)):Prop:=g<w.heap.size/\∀ i,i<ss.length->w.cell? ⟨g,i,none⟩=some (.string (ofL (ss.getD i [])))
theorem lines_of_owns {base cp:Nat} (h:w.ownsRow base 9 1 (.slice (some ⟨g,0,none⟩) k cp) k (strL ss)) (hl:ss.length=k):LinesAt w g ss:=by
 refine ⟨(h.lt g rfl).2,fun i hi=>?_⟩
 rw [h.cellAt i (by omega)]
 simp [strL,hi]
theorem info9:(prog.info? 9).map (fun i=>(i.zero,i.size,i.bytes))=some (some (.string ⟨#[]⟩),1,16):=by kernel_rfl
theorem ext_ofL (h:s.data.toList=l):s=ofL l:=by
 apply ByteArray.ext
 unfold ofL
 rw [<- h]
def wordOf (l:List UInt8):List UInt8:=l.takeWhile (· !=32)
def restOf (l:List UInt8):List UInt8:=(l.dropWhile (· !=32)).drop 1
theorem word_at (ha:(l.take k).all (· !=32)=true) (_hk:k<=l.length) (he:k=l.length\/l.getD k 0=32):wordOf l=l.take k/\restOf l=l.drop (k+1):=by
 have h:l.takeWhile (· !=32)=l.take k/\l.dropWhile (· !=32)=l.drop k:=by
  rcases Nat.lt_or_ge k l.length with hlt | hge
  rotate_left
  · rw [List.take_of_length_le hge] at ha
    rw [List.take_of_length_le hge,List.drop_of_length_le hge]
    have hall:∀ a∈l,(a !=32)=true:=fun a h=>List.all_eq_true.1 ha a h
    have:=List.takeWhile_append_of_pos (l₂:=[]) hall
    have h2:=List.dropWhile_append_of_pos (l₂:=[]) hall
    simp only [List.append_nil,List.takeWhile_nil,List.dropWhile_nil] at this h2
    exact ⟨this,h2⟩
  have hx:l[k]=32:=by
   rcases he with he | he
   · omega
   simpa [hlt] using he
  have hsplit:l=l.take k++l[k]::l.drop (k+1):=by rw [<- List.drop_eq_getElem_cons hlt,List.take_append_drop]
  have hall:∀ a∈l.take k,(a !=32)=true:=fun a h=>List.all_eq_true.1 ha a h
  constructor
  · conv=>lhs;rw [hsplit]
    rw [List.takeWhile_append_of_pos hall,hx]
    simp
  conv=>lhs;rw [hsplit]
  rw [List.dropWhile_append_of_pos hall,hx]
  rw [List.drop_eq_getElem_cons hlt,hx]
  simp
 refine ⟨h.1,?_⟩
 unfold restOf
 rw [h.2,List.drop_drop]
theorem cat_ofL (a b:List UInt8):ofL a++ofL b=ofL (a++b):=by apply ByteArray.ext;simp [ofL]
theorem one_ofL (c:UInt8):(⟨#[c]⟩:ByteArray)=ofL [c]:=rfl
theorem word_none (h:(32:UInt8)∉l):wordOf l=l/\restOf l=[]:=by
 have:=word_at (l:=l) (k:=l.length) (by rw [List.take_length,List.all_eq_true];intro a ha;simp only [bne_iff_ne];intro e;exact h (e▸ha)) (Nat.le_refl _) (.inl rfl)
 rw [List.take_length,List.drop_of_length_le (by omega)] at this
 exact this
theorem word_split (h:(32:UInt8)∉a):wordOf (a++32::r)=a/\restOf (a++32::r)=r:=by
 have:=word_at (l:=a++32::r) (k:=a.length) (by rw [List.take_left,List.all_eq_true];intro x ha;simp only [bne_iff_ne];intro e;exact h (e▸ha)) (by simp) (.inr (by simp))
 rw [List.take_left] at this
 refine ⟨this.1,this.2.trans ?_⟩
 rw [<- List.drop_drop,List.drop_left]
 rfl
theorem word_parts (h:(32:UInt8)∈l):l=wordOf l++32::restOf l/\(32:UInt8)∉wordOf l:=by
 obtain ⟨a,r,rfl,ha⟩:=List.eq_append_cons_of_mem h
 obtain ⟨h1,h2⟩:=word_split (r:=r) ha
 rw [h1,h2]
 exact ⟨rfl,ha⟩
theorem idx_one (l:List UInt8):(Lib.index l [32]=-1/\(32:UInt8)∉l)\/(∃ i:Nat,Lib.index l [32]=i/\(32:UInt8)∈l/\l.take i=wordOf l/\l.drop (i+1)=restOf l):=by
 rw [Lib.index_one]
 have hge:=Lib.indexByte_ge l 32
 by_cases h:Lib.indexByte l 32=-1
 · refine .inl ⟨h,fun hm=>?_⟩
   obtain ⟨k,hk,e⟩:=List.getElem_of_mem hm
   exact Lib.indexByte_none h k (by rw [List.getElem?_eq_getElem hk,e])
 obtain ⟨o,ho⟩:∃ o:Nat,Lib.indexByte l 32=o:=⟨(Lib.indexByte l 32).toNat,by omega⟩
 obtain ⟨h1,h2⟩:=Lib.indexByte_some ho
 have hl:o<l.length:=by
  rcases Nat.lt_or_ge o l.length with h | h
  · exact h
  rw [List.getElem?_eq_none h] at h1;cases h1
 have hm:(32:UInt8)∈l:=List.mem_of_getElem? h1
 have:=word_at (l:=l) (k:=o) (by
  rw [List.all_eq_true]
  intro x hx
  simp only [bne_iff_ne]
  rintro rfl
  obtain ⟨k,hk,e⟩:=List.getElem_of_mem hx
  rw [List.length_take] at hk
  rw [List.getElem_take] at e
  exact h2 k (by omega) (by rw [List.getElem?_eq_getElem (by omega),e])) (by omega) (.inr (by simp [List.getD,h1]))
 exact .inr ⟨o,ho,hm,this.1.symm,this.2.symm⟩
theorem cut_32 (l:List UInt8):(Lib.cut l [32]).1=wordOf l:=by
 unfold Lib.cut
 rcases idx_one l with ⟨h,hn⟩ | ⟨i,h,_,h1,_⟩
 · rw [h,if_neg (by omega),(word_none hn).1]
 rw [h,if_pos (by omega)];exact h1
def parts1 (l:List UInt8) (n:Nat):List (List UInt8):=Lib.splitK [32] 0 n l
theorem parts_zero (l:List UInt8):parts1 l 0=[l]:=rfl
theorem parts_no (n:Nat) (h:(32:UInt8)∉l):parts1 l n=[l]:=by
 cases n with
 | zero=>rfl
 | succ n=>
  unfold parts1 Lib.splitK
  rcases idx_one l with ⟨h',_⟩ | ⟨i,_,hm,_⟩
  · rw [h'];rfl
  exact absurd hm h
theorem parts_yes (n:Nat) (h:(32:UInt8)∈l):parts1 l (n+1)=wordOf l::parts1 (restOf l) n:=by
 unfold parts1
 rw [Lib.splitK]
 rcases idx_one l with ⟨_,hn⟩ | ⟨i,hi,_,h1,h2⟩
 · exact absurd h hn
 rw [hi,if_neg (by simp)]
 simp only [Int.toNat_natCast,Nat.add_zero,List.length_singleton,h1,h2]
theorem split10 {b q:List UInt8} (ha:(10:UInt8)∉a) (hb:(10:UInt8)∉b) (h:a++10::r=b++10::q):a=b/\r=q:=by
 induction a generalizing b with
 | nil=>
  cases b with
  | nil=>simpa using h
  | cons c b=>simp at h;exact absurd (by rw [h.1];simp) hb
 | cons d a ih=>
  cases b with
  | nil=>simp at h;exact absurd (by rw [h.1];simp) ha
  | cons c b=>
   simp only [List.cons_append,List.cons.injEq] at h
   obtain ⟨h1,h2⟩:=ih (fun h=>ha (List.mem_cons_of_mem _ h)) (fun h=>hb (List.mem_cons_of_mem _ h)) h.2
   exact ⟨by rw [h.1,h1],h2⟩
theorem tx_inj {a:ByteArray} (h:a.data.toList=b.data.toList):a=b:=ByteArray.ext (Array.toList_inj.1 h)
theorem cut_10 (l:List UInt8):((Lib.cut l [10]).2.2=true/\l=(Lib.cut l [10]).1++10::(Lib.cut l [10]).2.1/\(10:UInt8)∉(Lib.cut l [10]).1)\/((Lib.cut l [10]).2.2=false/\(Lib.cut l [10]).1=l/\(10:UInt8)∉l):=by
 unfold Lib.cut
 rw [Lib.index_one]
 have hge:=Lib.indexByte_ge l 10
 by_cases h:Lib.indexByte l 10=-1
 · rw [h,if_neg (by omega)]
   refine .inr ⟨rfl,rfl,fun hm=>?_⟩
   obtain ⟨k,hk,e⟩:=List.getElem_of_mem hm
   exact Lib.indexByte_none h k (by rw [List.getElem?_eq_getElem hk,e])
 obtain ⟨o,ho⟩:∃ o:Nat,Lib.indexByte l 10=o:=⟨(Lib.indexByte l 10).toNat,by omega⟩
 obtain ⟨h1,h2⟩:=Lib.indexByte_some ho
 have hl:o<l.length:=by
  rcases Nat.lt_or_ge o l.length with h | h
  · exact h
  rw [List.getElem?_eq_none h] at h1;cases h1
 rw [ho,if_pos (by omega)]
 refine .inl ⟨rfl,?_,fun hm=>?_⟩
 · simp only [Int.toNat_natCast,List.length_singleton]
   have hx:l[o]=10:=by rw [List.getElem?_eq_getElem hl] at h1;exact Option.some.inj h1
   conv=>lhs;rw [<- List.take_append_drop o l,List.drop_eq_getElem_cons hl,hx]
 simp only [Int.toNat_natCast] at hm
 obtain ⟨k,hk,e⟩:=List.getElem_of_mem hm
 rw [List.length_take] at hk
 rw [List.getElem_take] at e
 exact h2 k (by omega) (by rw [List.getElem?_eq_getElem (by omega),e])
theorem cst_line (p:List (List UInt8)×List UInt8) (a:List UInt8) (h:(10:UInt8)∉a):(a++[10]).foldl (cst 10) p=(p.1++[p.2++a],[]):=by
 induction a generalizing p with
 | nil=>simp [cst]
 | cons c a ih=>
  have hc:c≠10:=fun e=>h (by rw [e];simp)
  rw [List.cons_append,List.foldl_cons,ih _ (fun h'=>h (List.mem_cons_of_mem _ h'))]
  simp [cst,hc]
theorem cut_piece (b:UInt8) (l:List UInt8) (p:List (List UInt8)×List UInt8) (N:Nat) (h1:∀ x∈p.1,x.length<=N) (h2:p.2.length+l.length<=N):(∀ x∈(l.foldl (cst b) p).1,x.length<=N)/\(l.foldl (cst b) p).2.length<=N:=by
 induction l generalizing p with
 | nil=>exact ⟨h1,by simpa using h2⟩
 | cons c l ih=>
  rw [List.foldl_cons]
  apply ih
  · unfold cst;split
    · intro x hx
      rcases List.mem_append.1 hx with h | h
      · exact h1 x h
      simp at h;subst h;simp at h2;omega
    exact h1
  simp only [List.length_cons] at h2
  unfold cst;split
  · simp;omega
  simp;omega
theorem cut_small (b:UInt8) (l:List UInt8) (k:Nat):((cutS b l).getD k []).length<=l.length:=by
 obtain ⟨h1,h2⟩:=cut_piece b l ([],[]) l.length (by simp) (by simp)
 have h:∀ x∈cutS b l,x.length<=l.length:=by
  intro x hx
  unfold cutS cstate at hx
  rcases List.mem_append.1 hx with h | h
  · exact h1 x h
  simp at h;subst h;exact h2
 rcases Nat.lt_or_ge k (cutS b l).length with hk | hk
 · rw [List.getD,List.getElem?_eq_getElem hk];exact h _ (List.getElem_mem hk)
 rw [List.getD,List.getElem?_eq_none hk];simp
theorem cut_len (b:UInt8) (l:List UInt8):1<=(cutS b l).length/\(cutS b l).length<=l.length+1:=by
 have:=cstate_le b l
 unfold cutS
 rw [List.length_append,List.length_singleton];omega
theorem lean1_iff (l:List UInt8):lean1 l=true↔l≠[]/\(l.headD 0=48->l=[48]):=by
 cases l with
 | nil=>simp [lean1]
 | cons a r=>
  by_cases h:a=48
  · simp [lean1,h]
  simp [lean1,h]
theorem n40_yes (h1:lean1 l=true) (h2:l.all isDig=true) (h3:val l<=40):num40 l=true:=by
 have hd:decide (val l<=40)=true:=by simpa using h3
 simp only [num40,h1,h2,hd,Bool.and_self]
theorem byte_sub (c:UInt8) (h:48<=(c.toNat:Int)/\(c.toNat:Int)<=57):IntKind.u8.wrap ((c.toNat:Int) - 48)=(c.toNat:Int) - 48:=by
 simp [IntKind.wrap,IntKind.signed,IntKind.bits];omega
def n29 (l:List UInt8):Int:=if (1<=l.length/\l.length<=7)/\l.all isDig=true/\dec (val l)=l then val l else -1
theorem n29_len (h:¬ (1<=l.length/\l.length<=7)):n29 l=-1:=by unfold n29;rw [if_neg (fun x=>h x.1)]
theorem n29_dig (h:l.all isDig=false):n29 l=-1:=by unfold n29;rw [if_neg (fun x=>by rw [h] at x;cases x.2.1)]
theorem n29_dec (h:dec (val l)≠l):n29 l=-1:=by unfold n29;rw [if_neg (fun x=>h x.2.2)]
theorem n29_yes (h:1<=l.length/\l.length<=7) (h2:l.all isDig=true) (h3:dec (val l)=l):n29 l=val l:=by unfold n29;rw [if_pos ⟨h,h2,h3⟩]
theorem n29_num40 (l:List UInt8):decide (0<=n29 l/\n29 l<=40)=num40 l:=by
 by_cases h:num40 l=true
 · rw [h]
   have h':=h
   simp only [num40,Bool.and_eq_true,decide_eq_true_eq] at h'
   obtain ⟨⟨h1,h2⟩,h3⟩:=h'
   have hl:=val_dig_len l h2 h1 h3
   have hne:l≠[]:=((lean1_iff l).1 h1).1
   have h1':1<=l.length:=List.length_pos_iff.2 hne
   rw [n29_yes ⟨h1',by omega⟩ h2 (dec_val l h2 h1).1]
   have:=val_nonneg l h2
   simp only [decide_eq_true_eq];omega
 have h':num40 l=false:=by simpa using h
 rw [h']
 simp only [decide_eq_false_iff_not]
 intro ⟨a,b⟩
 unfold n29 at a b
 by_cases c:(1<=l.length/\l.length<=7)/\l.all isDig=true/\dec (val l)=l
 · rw [if_pos c] at a b
   have hd:=(dec_lean ((val l).toNat+1) (val l) a (by omega)).1
   rw [c.2.2] at hd
   rw [n40_yes hd c.2.1 b] at h'
   cases h'
 rw [if_neg c] at a
 omega
theorem val_bound (l:List UInt8) (h:l.all isDig=true):val l<10 ^ l.length:=by
 revert h
 refine snoc_ind (P:=fun l=>l.all isDig=true->val l<10 ^ l.length) (by simp [val]) (fun l c ih h=>?_) l
 rw [List.all_append] at h
 simp only [List.all_cons,List.all_nil,Bool.and_true,Bool.and_eq_true] at h
 have:=ih h.1
 have hc:=(dig_iff c).1 h.2
 rw [val_snoc,List.length_append,List.length_singleton,Int.pow_succ]
 omega
theorem val_seven (l:List UInt8) (h:l.all isDig=true) (hl:l.length<=7):val l<=10000000:=by
 have h1:=val_bound l h
 have h2:(10:Int) ^ l.length<=10 ^ 7:=by exact_mod_cast Nat.pow_le_pow_right (by omega) hl
 omega
def MaxAt (w:World):Prop:=0<w.heap.size/\∃ m,w.cell? ⟨0,0,none⟩=some (.int .i64 m)
theorem max_below {w':World} (h:MaxAt w) (hb:Below w.heap.size w w'):MaxAt w':=by
 obtain ⟨h1,m,hm⟩:=h
 exact ⟨Nat.lt_of_lt_of_le h1 hb.size,m,by rw [hb.cell (by exact h1)];exact hm⟩
theorem below_drewN (n:Nat):Below w.heap.size w (w.drewN n):=⟨rfl,rfl,rfl,Nat.le_refl _,fun _ _=>rfl⟩
theorem toL_inj {ss:List ByteArray} (h:ss.map (·.data.toList)=ls):ss=ls.map ofL:=by
 rw [<- h,List.map_map]
 conv=>lhs;rw [<- List.map_id ss]
 refine List.map_congr_left fun s _=>?_
 exact ext_ofL rfl
theorem past {v:Value} (hp:p.block<w.heap.size) (h:w.cell? p=some v) (o:Obj):(w.alloc o).cell? p=some v:=by
 rw [((Below.refl w.heap.size w).alloc (Nat.le_refl _) o).cell hp];exact h
theorem pastf (hp:p.block<w.heap.size) (h:w.frozen? p=false) (o:Obj):(w.alloc o).frozen? p=false:=by
 rw [((Below.refl w.heap.size w).alloc (Nat.le_refl _) o).frozen hp];exact h
theorem row3n (w:World) (x y z:Value) (t:TypeId):∀ j u,[x,y,z][j]?=some u->(w.alloc (.cells #[x,y,z] t)).cell? ((⟨w.heap.size,0,none⟩:Addr).add j)=some u:=by
 intro j u h
 match j,h with
 | 0,h=>simp at h;subst h;simp [Addr.add]
 | 1,h=>simp at h;subst h;simp [Addr.add]
 | 2,h=>simp at h;subst h;simp [Addr.add]
theorem row3g (hg:g=w.heap.size) (x y z:Value) (t:TypeId):∀ j u,[x,y,z][j]?=some u->(w.alloc (.cells #[x,y,z] t)).cell? ((⟨g,0,none⟩:Addr).add j)=some u:=by
 subst hg;exact row3n w x y z t
theorem row_form3 {v:Value} (h:w.ownsRow B e 3 v n xs):∃ ao c,v=.slice ao n c:=by
 rcases h.2 with ⟨hv,h0⟩ | ⟨g,cap,cur,hv,_⟩
 · exact ⟨none,0,by rw [hv,h0]⟩
 exact ⟨_,_,hv⟩
theorem owns_mono {B':Nat} {v:Value} (h:w.ownsRow B e size v n xs) (hB:B'<=B):w.ownsRow B' e size v n xs:=by
 refine ⟨h.1,?_⟩
 rcases h.2 with h2 | ⟨g,cap,cur,hv,hg,r⟩
 · exact .inl h2
 exact .inr ⟨g,cap,cur,hv,by omega,r⟩
def strOf:Value->Nat | .string s=>s.size | _=>0
theorem ofL_self (s:ByteArray):ofL s.data.toList=s:=(ext_ofL rfl).symm
def vr (c:Int) (l:List UInt8):Bool:=
 if c=0\/c=1 then decide (l.length<=300) else if c=2 then num40 l else if c=3 then l.isEmpty else if c=4\/c=5\/c=7 then nameOk l else false
theorem num40_len (h:num40 l=true):l.length<=2:=by
 simp only [num40,Bool.and_eq_true,decide_eq_true_eq] at h
 exact val_dig_len l h.1.2 h.1.1 h.2
theorem vr_long (h:300<l.length):vr c l=false:=by
 have h1:decide (l.length<=300)=false:=by simp only [decide_eq_false_iff_not];omega
 have h2:num40 l=false:=by
  by_cases h2:num40 l=true
  · have:=num40_len h2;omega
  simpa using h2
 have h3:l.isEmpty=false:=by cases l with | nil=>simp at h | cons a r=>rfl
 have h4:nameOk l=false:=by
  unfold nameOk
  have:decide (1<=l.length/\l.length<=20)=false:=by simp only [decide_eq_false_iff_not];omega
  rw [this];rfl
 unfold vr
 rw [h1,h2,h3,h4]
 split <;> (try rfl)
 split <;> (try rfl)
 split <;> (try rfl)
 split <;> rfl
