import Derived.Deep.RegionHeld3
import Derived.WalkSpells
import Derived.WalkLawsBesides
import Derived.Laws.BytesArg
import Derived.Deep.RegionWith
import Derived.Deep.QuietTactic
import Derived.BigQuiet
import Derived.Laws.Cover1
import Derived.Lib.Bytealg
import GoSem.Claim
import GoSem.ClaimJoined
import Derived.JoinedTies
import Derived.KernelRfl
import Derived.RowKit
import Derived.Laws.Externs
import Derived.Laws.BitsAllLaws
import Derived.Deep.RegionLaw
import Derived.Shelf.Strings.Split
import Derived.Shelf.Strings.Cut
import Derived.Shelf.Small.Strs
import Derived.Lib.IndexBytes
import Derived.Lib.IndexLaws
import Derived.Lib.Split
import Derived.Lib.CountLaws
import Derived.Outline
import Derived.Laws.Rows
import Derived.Laws.IdiomCopy
import Derived.Laws.OwnMore
import Derived.Test.YthjhakdpikdoeaaGreatDoorShelfA
set_option maxHeartbeats 8000000
set_option maxRecDepth 100000
set_option linter.unusedSimpArgs false
namespace Go.Proofs
theorem hI_ {p:Prop} (h:p):Go.RowKit.Hid p:=h
theorem bA {w:World} {o:Obj}:Go.RowKit.Below w.heap.size w (w.alloc o):=(Go.RowKit.Below.refl _ _).alloc (Nat.le_refl _) _
theorem bT {w u v:World} (h:Go.RowKit.Below w.heap.size w u) (k:Go.RowKit.Below u.heap.size u v):Go.RowKit.Below w.heap.size w v:=h.trans (k.mono h.size)
theorem om_ {p:Prop} (h:p:=by omega):p:=h
theorem so_ {p:Prop} (h:p:=by simp;omega):p:=h
theorem sm_ {p:Prop} (h:p:=by simp):p:=h
theorem dc_ {p:Prop} (h:p:=by decide):p:=h
theorem kr_ {p:Prop} (h:p:=by kernel_rfl):p:=h
theorem lr_ {n:Nat}:n<=n:=Nat.le_refl n
end Go.Proofs
namespace Go.Proofs.YthjhakdpikdoeaaGreatDoor
variable {α:Type} {P:Program} {ops:Array Oper} {md:Region.Mode} {fuel i:Nat} {listed:Array Bool} {a:Act} {w:World} {o oi:Oper} {v:Value} {d:Option Nat} {op:Op} {ty:TypeId} {p:String} {af:Array Edge}
theorem qq:(∀ (a:Act) (d:Nat) (v:Value),a.put (some d) v={ a with tmps:=a.tmps.setIfInBounds d v })/\(∀ (a:Act) (v:Value),a.put none v=a)/\(∀ {α:Type} (l:List α) (i:Nat) (a:α),l.toArray.setIfInBounds i a=(l.set i a).toArray)/\(∀ {α:Type} (x:α) (l:List α) (a:α),(x::l).set 0 a=a::l)/\∀ {α:Type} (x:α) (l:List α) (i:Nat) (a:α),(x::l).set (i+1) a=x::l.set i a:=⟨fun _ _ _=>rfl,fun _ _=>rfl,fun _ _ _=>List.setIfInBounds_toArray ..,fun _ _ _=>rfl,fun _ _ _ _=>rfl⟩
theorem rd {Q:Exit->Act->World->Prop} {S:World->Prop} (ho:ops[i]?=some o) (hr:Region.ready md ops listed=[i]) (h:∀ K':Act->World->Prop,Shut (∀ a w,S w->(S w->wpAnyH P md ops Q S fuel (listed.setIfInBounds i true) a w)->K' a w)->if Region.wanted o (yielded ops a.tmps)=true then Oper.wp P o a w K' Q else K' (a.put o.dst undef) w):wpAnyH P md ops Q S (fuel+1) listed a w:=wpAnyH_ready hr sm_ (AllReadyH.cons ho h AllReadyH.nil)
theorem tk {Q:Exit->Act->World->Prop} {S:World->Prop} (hi:ops[i]?=some oi) (hb:(Region.noSelect ops&&Region.free md ops listed i&&(Region.ready md ops listed).contains i)=true) (hw:Region.wanted oi (yielded ops a.tmps)=true) (hv:∀ u,S u->(execOp a.eval oi).run P u=.ok (.value v) u) (hS:S w) (h:wpAnyH P md ops Q S fuel (listed.setIfInBounds i true) (a.put oi.dst v) w) (hQ:∀ c a w,Q (.panic c) (a.put oi.dst v) w->Q (.panic c) a w:=by exact fun _ _ _ h=>h):wpAnyH P md ops Q S (fuel+1) listed a w:=by
  simp only [Bool.and_eq_true] at hb;exact wpAnyH_take hi hb.1.1 hb.1.2 hb.2 hQ (.inl ⟨hw,hv⟩) hS h
theorem tu {Q:Exit->Act->World->Prop} {S:World->Prop} (hi:ops[i]?=some oi) (hb:(Region.noSelect ops&&Region.free md ops listed i&&(Region.ready md ops listed).contains i)=true) (hw:Region.wanted oi (yielded ops a.tmps)=false) (hS:S w) (h:wpAnyH P md ops Q S fuel (listed.setIfInBounds i true) (a.put oi.dst undef) w) (hQ:∀ c a w,Q (.panic c) (a.put oi.dst undef) w->Q (.panic c) a w:=by exact fun _ _ _ h=>h):wpAnyH P md ops Q S (fuel+1) listed a w:=by
  simp only [Bool.and_eq_true] at hb;exact wpAnyH_take hi hb.1.1 hb.1.2 hb.2 hQ (.inr ⟨hw,rfl⟩) hS h
theorem tq {Q:Exit->Act->World->Prop} {S:World->Prop} {g:Option (Nat×Bool)} (i:Nat) (hS:S w) (h:wpAnyH P md ops Q S fuel (listed.setIfInBounds i true) (a.put d v) w) (hi:ops[i]?=some ⟨d,op,ty,p,af,g⟩:=by exact rfl) (hb:(Region.noSelect ops&&Region.free md ops listed i&&(Region.ready md ops listed).contains i)=true:=by kernel_rfl) (hw:Region.wanted ⟨d,op,ty,p,af,g⟩ (yielded ops a.tmps)=true:=by exact rfl) (hv:∀ u,S u->(execOp a.eval ⟨d,op,ty,p,af,g⟩).run P u=.ok (.value v) u:=by intro wq hSw;(try dsimp only at hSw);go_simp;try with_reducible rfl) (hQ:∀ c a w,Q (.panic c) (a.put d v) w->Q (.panic c) a w:=by first | exact fun _ _ _ h=>h | exact fun _ _ _ h=>hQ _ _ _ _ _ h):wpAnyH P md ops Q S (fuel+1) listed a w:=tk hi hb hw hv hS h hQ
theorem uq {Q:Exit->Act->World->Prop} {S:World->Prop} {g:Option (Nat×Bool)} (i:Nat) (hS:S w) (h:wpAnyH P md ops Q S fuel (listed.setIfInBounds i true) (a.put d undef) w) (hi:ops[i]?=some ⟨d,op,ty,p,af,g⟩:=by exact rfl) (hb:(Region.noSelect ops&&Region.free md ops listed i&&(Region.ready md ops listed).contains i)=true:=by kernel_rfl) (hw:Region.wanted ⟨d,op,ty,p,af,g⟩ (yielded ops a.tmps)=false:=by exact rfl) (hQ:∀ c a w,Q (.panic c) (a.put d undef) w->Q (.panic c) a w:=by first | exact fun _ _ _ h=>h | exact fun _ _ _ h=>hQ _ _ _ _ _ h):wpAnyH P md ops Q S (fuel+1) listed a w:=tu hi hb hw hS h hQ
theorem rq {Q:Exit->Act->World->Prop} {S:World->Prop} {g:Option (Nat×Bool)} (i:Nat) (h:∀ K':Act->World->Prop,Shut (∀ a w,S w->(S w->wpAnyH P md ops Q S fuel (listed.setIfInBounds i true) a w)->K' a w)->if Region.wanted ⟨d,op,ty,p,af,g⟩ (yielded ops a.tmps)=true then Oper.wp P ⟨d,op,ty,p,af,g⟩ a w K' Q else K' (a.put d undef) w) (ho:ops[i]?=some ⟨d,op,ty,p,af,g⟩:=by exact rfl) (hr:Region.ready md ops listed=[i]:=by kernel_rfl):wpAnyH P md ops Q S (fuel+1) listed a w:=rd ho hr h
end Go.Proofs.YthjhakdpikdoeaaGreatDoor
namespace Go.Proofs.YthjhakdpikdoeaaGreatDoor
open Proofs.Tryz
open Go.RowKit
variable {a l r:List UInt8} {b s:ByteArray} {B g k n size:Nat} {w:World} {c y:Int} {ls ss:List (List UInt8)} {p:Addr} {e:TypeId} {xs:List Value}
def isGraph (c:UInt8):Bool:=decide (33<=(c.toNat:Int)/\(c.toNat:Int)<=126)
def nameOk (l:List UInt8):Bool:=decide (1<=l.length/\l.length<=20)&&l.all isGraph
theorem graph_iff (c:UInt8):isGraph c=true↔33<=(c.toNat:Int)/\(c.toNat:Int)<=126:=by simp [isGraph]
theorem take_snoc (s:ByteArray) (k:Nat) (h:k<s.size):s.data.toList.take (k+1)=s.data.toList.take k++[s[k]]:=by
 rw [List.take_succ_eq_append_getElem (by simpa using h)];rfl
theorem ret_bool {a b:Bool} (h:a=b):Ending.returned (.bool a)=.returned (.bool b):=by rw [h]
theorem c30 (n l h:Int) (w:World):
 Calls prog 30 #[.int .i64 n,.int .i64 l,.int .i64 h] w fun e w'=>e=.returned (.bool (decide (l<=n/\n<=h)))/\w'=w:=by
 by_cases h1:l<=n <;> by_cases h2:n<=h
 all_goals
  go_enter func30,ntmps30;go_wp2
  all_goals go_ret
  all_goals exact ⟨by simp [*],rfl⟩
theorem all_take_snoc (p:UInt8->Bool) (s:ByteArray) (k:Nat) (h:k<s.size) (ha:(s.data.toList.take k).all p=true) (hp:p s[k]=true):(s.data.toList.take (k+1)).all p=true:=by
 rw [take_snoc s k h,List.all_append,ha];simpa using hp
theorem all_false_at (p:UInt8->Bool) (s:ByteArray) (k:Nat) (h:k<s.size) (hp:p s[k]=false):s.data.toList.all p=false:=by
 rw [List.all_eq_false];exact ⟨s[k],by simp [ByteArray.getElem_eq_getElem_data],by simp [hp]⟩
theorem all_take_size (p:UInt8->Bool) (s:ByteArray) (k:Nat) (h:s.size<=k) (ha:(s.data.toList.take k).all p=true):s.data.toList.all p=true:=by
 rwa [List.take_of_length_le (by simpa using h)] at ha
theorem name_short (s:ByteArray) (h:¬ (1<=s.size/\s.size<=20)):nameOk s.data.toList=false:=by
 unfold nameOk;have:(decide (1<=s.data.toList.length/\s.data.toList.length<=20))=false:=by
  simp only [decide_eq_false_iff_not];simpa using h
 rw [this];rfl
theorem name_long (s:ByteArray) (h:1<=s.size/\s.size<=20):nameOk s.data.toList=s.data.toList.all isGraph:=by
 unfold nameOk;have:(decide (1<=s.data.toList.length/\s.data.toList.length<=20))=true:=by
  simp only [decide_eq_true_eq];simpa using h
 rw [this];rfl
theorem c69 (s:ByteArray) (w:World) (hs:s.size<=1048700):
 Calls prog 69 #[.string s] w fun e w'=>e=.returned (.bool (nameOk s.data.toList))/\w'=w:=by
 by_cases h:1<=s.size/\s.size<=20;rotate_left
 · have hN:Hid (nameOk s.data.toList=false):=name_short s h
   by_cases h1:1<=s.size
   all_goals
    go_enter func69,ntmps69;go_wp2
    all_goals go_ret
    all_goals exact ⟨ret_bool (by rw [hN.out]),rfl⟩
 have hN:Hid (nameOk s.data.toList=s.data.toList.all isGraph):=name_long s h;obtain ⟨h1,h2⟩:=h;go_enter func69,ntmps69;go_wp2;go_loop [14] (fun i=>∃ k:Nat,k<=s.size/\i=.int .i64 k/\Hid ((s.data.toList.take k).all isGraph=true)) (fun i=>s.size - (intOf i).toNat)
 case atStart=>exact ⟨0,Nat.zero_le _,rfl,rfl⟩
 obtain ⟨k,hk,rfl,ha⟩:=hrel;by_cases hlt:k<s.size;rotate_left
 · go_wp2
   go_ret;exact ⟨ret_bool (by rw [hN.out,all_take_size _ s k om_ ha.out]),rfl⟩
 by_cases hg:isGraph s[k]=true
 · have hg':=(graph_iff _).1 hg
   have hn:=Hid.out ha;have ha':Hid ((s.data.toList.take (k+1)).all isGraph=true):=all_take_snoc _ s k hlt ha.out hg;clear hg hn;go_wp2
   go_round
   case rel=>exact ⟨k+1,om_,by go_num,ha'⟩
   case measure=>simp [intOf];omega
 have hf:Hid (s.data.toList.all isGraph=false):=all_false_at _ s k hlt (by simpa using hg);have hg':(s[k].toNat:Int)<33\/126<(s[k].toNat:Int):=by
  rcases Int.lt_or_le (s[k].toNat:Int) 33 with h | h
  · exact .inl h
  rcases Int.lt_or_le 126 (s[k].toNat:Int) with h' | h'
  · exact .inr h'
  exact absurd ((graph_iff _).2 ⟨h,h'⟩) hg
 clear hg;rcases hg' with hg | hg
 all_goals
  go_wp2
  all_goals go_ret
  all_goals exact ⟨ret_bool (by rw [hN.out,hf.out]),rfl⟩
theorem c63 (s:ByteArray) (w:World) (hs:s.size<=1048700):
 Calls prog 63 #[.string s] w fun e w'=>e=.returned (.bool (nameOk s.data.toList))/\w'=w:=by
 by_cases h:1<=s.size/\s.size<=20;rotate_left
 · have hN:Hid (nameOk s.data.toList=false):=name_short s h
   have hd:decide ((1:Int)<=(s.size:Int)/\(s.size:Int)<=20)=false:=by simp only [decide_eq_false_iff_not];omega
   go_enter func63,ntmps63
   go_wp2_with fail
   refine (c30 _ _ _ _).mono ?_;rintro e w' ⟨rfl,rfl⟩;rw [hd];go_wp2;go_ret;exact ⟨ret_bool (by rw [hN.out]),rfl⟩
 have hN:Hid (nameOk s.data.toList=s.data.toList.all isGraph):=name_long s h;have hd:decide ((1:Int)<=(s.size:Int)/\(s.size:Int)<=20)=true:=so_;go_enter func63,ntmps63
 go_wp2_with fail
 refine (c30 _ _ _ _).mono ?_;rintro e w' ⟨rfl,rfl⟩;rw [hd];go_wp2;go_loop [3] (fun i=>∃ k:Nat,k<=s.size/\i=.int .i64 k/\Hid ((s.data.toList.take k).all isGraph=true)) (fun i=>s.size - (intOf i).toNat)
 case atStart=>exact ⟨0,Nat.zero_le _,rfl,rfl⟩
 obtain ⟨k,hk,rfl,ha⟩:=hrel;by_cases hlt:k<s.size;rotate_left
 · go_wp2
   go_ret;exact ⟨ret_bool (by rw [hN.out,all_take_size _ s k om_ ha.out]),rfl⟩
 by_cases hg:isGraph s[k]=true
 · have hg':=(graph_iff _).1 hg
   have ha':Hid ((s.data.toList.take (k+1)).all isGraph=true):=all_take_snoc _ s k hlt ha.out hg;clear hg;go_wp2
   go_round
   case rel=>exact ⟨k+1,om_,by go_num,ha'⟩
   case measure=>simp [intOf];omega
 have hf:Hid (s.data.toList.all isGraph=false):=all_false_at _ s k hlt (by simpa using hg);have hg':(s[k].toNat:Int)<33\/126<(s[k].toNat:Int):=by
  rcases Int.lt_or_le (s[k].toNat:Int) 33 with h | h
  · exact .inl h
  rcases Int.lt_or_le 126 (s[k].toNat:Int) with h' | h'
  · exact .inr h'
  exact absurd ((graph_iff _).2 ⟨h,h'⟩) hg
 clear hg;rcases hg' with hg | hg
 all_goals
  go_wp2
  all_goals go_ret
  all_goals exact ⟨ret_bool (by rw [hN.out,hf.out]),rfl⟩
theorem adr_ne {i j:Nat} (h:i≠j):(⟨B,i,none⟩:Addr)≠⟨B,j,none⟩:=by intro e;injection e with _ e;exact h e
theorem set2_at (u:World) (B j:Nat) (v0 v1 x0 x1:Value) (h0:u.cell? ⟨B,j,none⟩=some x0) (h1:u.cell? ⟨B,j+1,none⟩=some x1):
 ((u.setCell ⟨B,j,none⟩ v0).setCell ⟨B,j+1,none⟩ v1).cell? ⟨B,j,none⟩=some v0/\((u.setCell ⟨B,j,none⟩ v0).setCell ⟨B,j+1,none⟩ v1).cell? ⟨B,j+1,none⟩=some v1:=by
 have a1:(u.setCell ⟨B,j,none⟩ v0).cell? ⟨B,j+1,none⟩=some x1:=by rw [World.cell?_setCell_other _ _ _ _ (adr_ne om_)];exact h1
 refine ⟨?_,World.cell?_setCell_same _ _ _ a1⟩;rw [World.cell?_setCell_other _ _ _ _ (adr_ne om_)];exact World.cell?_setCell_same _ _ _ h0
theorem wrap_nat (q:Nat) (h:q<1048577):IntKind.i64.wrap (q:Int)=(q:Int):=by
 have h1:(q:Int) % 2 ^ 64=q:=om_;simp only [IntKind.wrap,IntKind.bits,IntKind.signed,h1];rw [if_neg so_]
def isDig (c:UInt8):Bool:=decide (48<=(c.toNat:Int)/\(c.toNat:Int)<=57)
def vstep (n:Int) (c:UInt8):Int:=n*10+((c.toNat:Int) - 48)
def val (l:List UInt8):Int:=l.foldl vstep 0
theorem val_snoc (l:List UInt8) (c:UInt8):val (l++[c])=val l*10+((c.toNat:Int) - 48):=by simp [val,vstep]
theorem dig_iff (c:UInt8):isDig c=true↔48<=(c.toNat:Int)/\(c.toNat:Int)<=57:=by simp [isDig]
theorem snoc_ind {P:List UInt8->Prop} (h0:P []) (h1:∀ l c,P l->P (l++[c])) (l:List UInt8):P l:=by
 have h:∀ r:List UInt8,P r.reverse:=fun r=>by
  induction r with
  | nil=>exact h0
  | cons c r ih=>rw [List.reverse_cons];exact h1 _ _ ih
 have:=h l.reverse
 rwa [List.reverse_reverse] at this
theorem val_nonneg (l:List UInt8):l.all isDig=true->0<=val l:=by
 refine snoc_ind (P:=fun l=>l.all isDig=true->0<=val l) (by simp [val]) (fun l c ih h=>?_) l;rw [List.all_append] at h;simp only [List.all_cons,List.all_nil,Bool.and_true,Bool.and_eq_true] at h;have:=ih h.1;have hc:=(dig_iff c).1 h.2;rw [val_snoc];omega
def lean1 (l:List UInt8):Bool:=!l.isEmpty&&!(l.headD 0==48&&!(l==[48]))
def num40 (l:List UInt8):Bool:=lean1 l&&l.all isDig&&decide (val l<=40)
def decF:Nat->Int->List UInt8
 | 0,_=>[]
 | f+1,n=>if n<10 then [UInt8.ofNat (48+n).toNat] else decF f (n / 10)++[UInt8.ofNat (48+n % 10).toNat]
def dec (n:Int):List UInt8:=decF (n.toNat+1) n
theorem decF_any (f g:Nat) (n:Int) (h0:0<=n) (hf:n.toNat<f) (hg:n.toNat<g):decF f n=decF g n:=by
 induction f generalizing g n with
 | zero=>omega
 | succ f ih=>
  cases g with
  | zero=>omega
  | succ g=>
   simp only [decF];by_cases h:n<10
   · rw [if_pos h,if_pos h]
   rw [if_neg h,if_neg h,ih g (n / 10) om_ om_ om_]
theorem dec_lt (n:Int) (h:n<10):dec n=[UInt8.ofNat (48+n).toNat]:=by simp [dec,decF,h]
theorem dec_ge (n:Int) (h:10<=n):dec n=dec (n / 10)++[UInt8.ofNat (48+n % 10).toNat]:=by
 unfold dec;rw [decF,if_neg om_,decF_any n.toNat ((n / 10).toNat+1) (n / 10) om_ om_ om_]
theorem dec_ne (n:Int):dec n≠[]:=by
 by_cases h:n<10
 · rw [dec_lt n h];simp
 rw [dec_ge n om_];simp
theorem ofNat_dig (c:UInt8) (h:isDig c=true):UInt8.ofNat (48+((c.toNat:Int) - 48)).toNat=c:=by
 have:=(dig_iff c).1 h;rw [show (48+((c.toNat:Int) - 48)).toNat=c.toNat by omega];exact UInt8.ofNat_toNat
theorem dec_val (l:List UInt8):l.all isDig=true->lean1 l=true->dec (val l)=l/\(2<=l.length->10<=val l)/\(l.headD 0≠48->1<=val l):=by
 refine snoc_ind (P:=fun l=>l.all isDig=true->lean1 l=true->dec (val l)=l/\(2<=l.length->10<=val l)/\(l.headD 0≠48->1<=val l)) (by simp [lean1]) (fun l c ih h hl=>?_) l;rw [List.all_append] at h;simp only [List.all_cons,List.all_nil,Bool.and_true,Bool.and_eq_true] at h;have hc:=(dig_iff c).1 h.2;have hd:=ofNat_dig c h.2
 cases l with
 | nil=>
  have e:val ([]++[c])=(c.toNat:Int) - 48:=by rw [val_snoc];simp [val]
  rw [e];refine ⟨?_,sm_,?_⟩
  · rw [dec_lt _ om_,hd];rfl
  intro h1;simp at h1;have:c.toNat≠48:=fun e=>h1 (by rw [<- UInt8.toNat_inj];exact e);omega
 | cons a r=>
  have ha:a≠48:=by
   intro e;subst e;simp [lean1] at hl
  have hl':lean1 (a::r)=true:=by simp [lean1,ha]
  obtain ⟨h1,_,h3⟩:=ih h.1 hl';have h4:=h3 (by simpa using ha);rw [val_snoc];have hdiv:(val (a::r)*10+((c.toNat:Int) - 48)) / 10=val (a::r):=om_;have hmod:(val (a::r)*10+((c.toNat:Int) - 48)) % 10=(c.toNat:Int) - 48:=om_;refine ⟨?_,fun _=>om_,fun _=>om_⟩;rw [dec_ge _ om_,hdiv,hmod,h1,hd]
theorem dec_lean (f:Nat) (n:Int) (h0:0<=n) (hf:n.toNat<f):lean1 (dec n)=true/\(1<=n->(dec n).headD 0≠48):=by
 induction f generalizing n with
 | zero=>omega
 | succ f ih=>
  by_cases h:n<10
  · rw [dec_lt n h]
    obtain rfl | rfl | rfl | rfl | rfl | rfl | rfl | rfl | rfl | rfl:n=0\/n=1\/n=2\/n=3\/n=4\/n=5\/n=6\/n=7\/n=8\/n=9:=om_
    all_goals decide
  obtain ⟨h1,h2⟩:=ih (n / 10) om_ om_;have h3:=h2 om_;rw [dec_ge n om_];have hne:=dec_ne (n / 10);generalize dec (n / 10)=l at*
  cases l with
  | nil=>exact absurd rfl hne
  | cons a r=>
   have ha:a≠48:=by simpa using h3
   exact ⟨by simp [lean1,ha],fun _=>by simpa using ha⟩
theorem val_dig_len (l:List UInt8) (h:l.all isDig=true) (hl:lean1 l=true) (h40:val l<=40):l.length<=2:=by
 rcases Nat.lt_or_ge 2 l.length with h2 | h2;rotate_left
 · exact h2
 exfalso;rcases List.eq_nil_or_concat l with e | ⟨r,c,e⟩
 · subst e;simp at h2
 rw [List.concat_eq_append] at e;subst e;rw [List.all_append] at h;simp only [List.all_cons,List.all_nil,Bool.and_true,Bool.and_eq_true] at h;have hr:2<=r.length:=by simp at h2;omega
 cases r with
 | nil=>simp at hr
 | cons a r=>
  have ha:a≠48:=by
   intro e;subst e;simp [lean1] at hl
  have:=(dec_val (a::r) h.1 (by simp [lean1,ha])).2.1 hr;have hc:=(dig_iff c).1 h.2;rw [val_snoc] at h40;omega
theorem decF_len (f:Nat) (n:Int):(decF f n).length<=f:=by
 induction f generalizing n with
 | zero=>simp [decF]
 | succ f ih=>
  simp only [decF];by_cases h:n<10
  · rw [if_pos h];simp
  rw [if_neg h];have:=ih (n / 10);simp;omega
theorem dec_len (n:Int) (h:0<=n) (h1:n<=100000000):(dec n).length<=100000001:=by
 have:=decF_len (n.toNat+1) n;unfold dec;omega
structure M3 where
 nm:ByteArray
 tl:ByteArray
 ar:ByteArray
def m3z:M3:=⟨⟨#[]⟩,⟨#[]⟩,⟨#[]⟩⟩
def M3.v (x:M3):Value:=.agg #[.string x.nm,.string x.tl,.string x.ar]
def M3.le (x:M3) (B:Nat):Prop:=x.nm.size<=B/\x.tl.size<=B/\x.ar.size<=B
theorem set3_at (u:World) (B j:Nat) (v0 v1 v2 x0 x1 x2:Value) (h0:u.cell? ⟨B,j,none⟩=some x0) (h1:u.cell? ⟨B,j+1,none⟩=some x1) (h2:u.cell? ⟨B,j+2,none⟩=some x2):
 (((u.setCell ⟨B,j,none⟩ v0).setCell ⟨B,j+1,none⟩ v1).setCell ⟨B,j+2,none⟩ v2).cell? ⟨B,j,none⟩=some v0/\(((u.setCell ⟨B,j,none⟩ v0).setCell ⟨B,j+1,none⟩ v1).setCell ⟨B,j+2,none⟩ v2).cell? ⟨B,j+1,none⟩=some v1/\(((u.setCell ⟨B,j,none⟩ v0).setCell ⟨B,j+1,none⟩ v1).setCell ⟨B,j+2,none⟩ v2).cell? ⟨B,j+2,none⟩=some v2:=by
 have a1:(u.setCell ⟨B,j,none⟩ v0).cell? ⟨B,j+1,none⟩=some x1:=by rw [World.cell?_setCell_other _ _ _ _ (adr_ne om_)];exact h1
 have a2:((u.setCell ⟨B,j,none⟩ v0).setCell ⟨B,j+1,none⟩ v1).cell? ⟨B,j+2,none⟩=some x2:=by
  rw [World.cell?_setCell_other _ _ _ _ (adr_ne om_),World.cell?_setCell_other _ _ _ _ (adr_ne om_)];exact h2
 refine ⟨?_,?_,World.cell?_setCell_same _ _ _ a2⟩
 · rw [World.cell?_setCell_other _ _ _ _ (adr_ne om_),World.cell?_setCell_other _ _ _ _ (adr_ne om_)];exact World.cell?_setCell_same _ _ _ h0
 rw [World.cell?_setCell_other _ _ _ _ (adr_ne om_)];exact World.cell?_setCell_same _ _ _ a1
theorem conv1 (u:World) (y:Int):(convert 22 9 (.slice (some ⟨u.heap.size,0,none⟩) 1 1)).run prog (u.alloc (.cells #[.int .u8 y] 5))=.ok (.string (strOfNums [y])) (u.alloc (.cells #[.int .u8 y] 5)):=
 run_convert_bytes_arg _ 22 5 underlying22 underlying5 _ 0 1 1 [y] rfl (fun i hi=>by
  obtain rfl:i=0:=om_;simp) 9 underlying9
theorem convD (u:World) (y:Int):(convert 22 9 (.slice (some ⟨u.heap.size,0,none⟩) 1 1)).run prog (u.alloc (.cells #[.int .u8 y] 5)).drew=.ok (.string (strOfNums [y])) (u.alloc (.cells #[.int .u8 y] 5)).drew:=
 run_convert_bytes_arg _ 22 5 underlying22 underlying5 _ 0 1 1 [y] rfl (fun i hi=>by
  obtain rfl:i=0:=om_;simp) 9 underlying9
theorem convB {u w1:World} (hb:Below (u.alloc (.cells #[.int .u8 y] 5)).drew.heap.size (u.alloc (.cells #[.int .u8 y] 5)).drew w1):
 (convert 22 9 (.slice (some ⟨u.heap.size,0,none⟩) 1 1)).run prog w1=.ok (.string (strOfNums [y])) w1:=
 run_convert_bytes_arg _ 22 5 underlying22 underlying5 _ 0 1 1 [y] rfl (fun i hi=>by
  obtain rfl:i=0:=om_;rw [hb.cell sm_];simp) 9 underlying9
def ofL (l:List UInt8):ByteArray:=⟨l.toArray⟩
theorem ofL_size (l:List UInt8):(ofL l).size=l.length:=by simp [ofL,ByteArray.size]
def okM (x:M3):Bool:=nameOk x.nm.data.toList&&nameOk x.tl.data.toList&&decide ((x.ar.size:Int)<=300)
theorem c55 (x:M3) (w:World) (hs:x.le 1048700):
 Calls prog 55 #[.agg #[.string x.nm,.string x.tl,.string x.ar]] w fun e w'=>e=.returned (.bool (okM x))/\Below w.heap.size w w':=by
 have HF:Hid (okM x=(nameOk x.nm.data.toList&&nameOk x.tl.data.toList&&decide ((x.ar.size:Int)<=300))):=rfl;obtain ⟨h1,h2,h3⟩:=hs;go_enter func55,ntmps55
 go_wp2_with fail
 refine (c63 _ _ h1).mono ?_;rintro e w1 ⟨rfl,rfl⟩;cases hn:nameOk x.nm.data.toList
 · rw [hn] at HF
   go_wp2
   all_goals go_ret
   all_goals exact ⟨ret_bool (by rw [HF.out];simp),bA⟩
 rw [hn] at HF
 go_wp2_with fail
 refine (c63 _ _ h2).mono ?_;rintro e w1 ⟨rfl,rfl⟩;cases hm:nameOk x.tl.data.toList
 all_goals
  rw [hm] at HF;go_wp2
  all_goals go_ret
  all_goals exact ⟨ret_bool (by rw [HF.out];simp),bA⟩
theorem c55v {x:M3} {v:Bool} (hv:okM x=v) (w:World) (hs:x.le 1048700):
 Calls prog 55 #[.agg #[.string x.nm,.string x.tl,.string x.ar]] w fun e w'=>e=.returned (.bool v)/\Below w.heap.size w w':=hv▸c55 x w hs
def cst (b:UInt8) (p:List (List UInt8)×List UInt8) (c:UInt8):List (List UInt8)×List UInt8:=if c=b then (p.1++[p.2],[]) else (p.1,p.2++[c])
def cstate (b:UInt8) (l:List UInt8):List (List UInt8)×List UInt8:=l.foldl (cst b) ([],[])
def cutS (b:UInt8) (l:List UInt8):List (List UInt8):=(cstate b l).1++[(cstate b l).2]
theorem cstate_snoc (b:UInt8) (l:List UInt8) (c:UInt8):cstate b (l++[c])=cst b (cstate b l) c:=by simp [cstate]
theorem cstate_len (b:UInt8) (l:List UInt8) (p:List (List UInt8)×List UInt8):(l.foldl (cst b) p).1.length<=p.1.length+l.length:=by
 induction l generalizing p with
 | nil=>simp
 | cons c l ih=>
  have:=ih (cst b p c);have h2:(cst b p c).1.length<=p.1.length+1:=by unfold cst;split <;> simp
  simp only [List.foldl_cons,List.length_cons];omega
theorem cstate_le (b:UInt8) (l:List UInt8):(cstate b l).1.length<=l.length:=by have:=cstate_len b l ([],[]);simpa [cstate] using this
def strL (ss:List (List UInt8)):List Value:=ss.map fun l=>.string (ofL l)
theorem strL_snoc (ss:List (List UInt8)) (l:List UInt8):strL (ss++[l])=strL ss++[.string (ofL l)]:=by simp [strL]
def LinesAt (w:World) (g:Nat) (ss:List (List UInt8)):Prop:=g<w.heap.size/\∀ i,i<ss.length->w.cell? ⟨g,i,none⟩=some (.string (ofL (ss.getD i [])))
theorem lines_of_owns {base cp:Nat} (h:w.ownsRow base 9 1 (.slice (some ⟨g,0,none⟩) k cp) k (strL ss)) (hl:ss.length=k):LinesAt w g ss:=by
 refine ⟨(h.lt g rfl).2,fun i hi=>?_⟩;rw [h.cellAt i om_];simp [strL,hi]
theorem info9:(prog.info? 9).map (fun i=>(i.zero,i.size,i.bytes))=some (some (.string ⟨#[]⟩),1,16):=kr_
theorem ext_ofL (h:s.data.toList=l):s=ofL l:=by
 apply ByteArray.ext;unfold ofL;rw [<- h]
def wordOf (l:List UInt8):List UInt8:=l.takeWhile (· !=32)
def restOf (l:List UInt8):List UInt8:=(l.dropWhile (· !=32)).drop 1
theorem word_at (ha:(l.take k).all (· !=32)=true) (_hk:k<=l.length) (he:k=l.length\/l.getD k 0=32):wordOf l=l.take k/\restOf l=l.drop (k+1):=by
 have h:l.takeWhile (· !=32)=l.take k/\l.dropWhile (· !=32)=l.drop k:=by
  rcases Nat.lt_or_ge k l.length with hlt | hge;rotate_left
  · rw [List.take_of_length_le hge] at ha
    rw [List.take_of_length_le hge,List.drop_of_length_le hge];have hall:∀ a∈l,(a !=32)=true:=fun a h=>List.all_eq_true.1 ha a h;have:=List.takeWhile_append_of_pos (l₂:=[]) hall;have h2:=List.dropWhile_append_of_pos (l₂:=[]) hall;simp only [List.append_nil,List.takeWhile_nil,List.dropWhile_nil] at this h2;exact ⟨this,h2⟩
  have hx:l[k]=32:=by
   rcases he with he | he
   · omega
   simpa [hlt] using he
  have hsplit:l=l.take k++l[k]::l.drop (k+1):=by rw [<- List.drop_eq_getElem_cons hlt,List.take_append_drop]
  have hall:∀ a∈l.take k,(a !=32)=true:=fun a h=>List.all_eq_true.1 ha a h;constructor
  · conv=>lhs;rw [hsplit]
    rw [List.takeWhile_append_of_pos hall,hx];simp
  conv=>lhs;rw [hsplit]
  rw [List.dropWhile_append_of_pos hall,hx];rw [List.drop_eq_getElem_cons hlt,hx];simp
 refine ⟨h.1,?_⟩;unfold restOf;rw [h.2,List.drop_drop]
theorem cat_ofL (a b:List UInt8):ofL a++ofL b=ofL (a++b):=by apply ByteArray.ext;simp [ofL]
theorem one_ofL (c:UInt8):(⟨#[c]⟩:ByteArray)=ofL [c]:=rfl
theorem word_none (h:(32:UInt8)∉l):wordOf l=l/\restOf l=[]:=by
 have:=word_at (l:=l) (k:=l.length) (by rw [List.take_length,List.all_eq_true];intro a ha;simp only [bne_iff_ne];intro e;exact h (e▸ha)) lr_ (.inl rfl);rw [List.take_length,List.drop_of_length_le om_] at this;exact this
theorem word_split (h:(32:UInt8)∉a):wordOf (a++32::r)=a/\restOf (a++32::r)=r:=by
 have:=word_at (l:=a++32::r) (k:=a.length) (by rw [List.take_left,List.all_eq_true];intro x ha;simp only [bne_iff_ne];intro e;exact h (e▸ha)) sm_ (.inr sm_);rw [List.take_left] at this;refine ⟨this.1,this.2.trans ?_⟩;rw [<- List.drop_drop,List.drop_left];rfl
theorem word_parts (h:(32:UInt8)∈l):l=wordOf l++32::restOf l/\(32:UInt8)∉wordOf l:=by
 obtain ⟨a,r,rfl,ha⟩:=List.eq_append_cons_of_mem h;obtain ⟨h1,h2⟩:=word_split (r:=r) ha;rw [h1,h2];exact ⟨rfl,ha⟩
theorem idx_one (l:List UInt8):(Lib.index l [32]=-1/\(32:UInt8)∉l)\/(∃ i:Nat,Lib.index l [32]=i/\(32:UInt8)∈l/\l.take i=wordOf l/\l.drop (i+1)=restOf l):=by
 rw [Lib.index_one];have hge:=Lib.indexByte_ge l 32;by_cases h:Lib.indexByte l 32=-1
 · refine .inl ⟨h,fun hm=>?_⟩
   obtain ⟨k,hk,e⟩:=List.getElem_of_mem hm;exact Lib.indexByte_none h k (by rw [List.getElem?_eq_getElem hk,e])
 obtain ⟨o,ho⟩:∃ o:Nat,Lib.indexByte l 32=o:=⟨(Lib.indexByte l 32).toNat,om_⟩;obtain ⟨h1,h2⟩:=Lib.indexByte_some ho;have hl:o<l.length:=by
  rcases Nat.lt_or_ge o l.length with h | h
  · exact h
  rw [List.getElem?_eq_none h] at h1;cases h1
 have hm:(32:UInt8)∈l:=List.mem_of_getElem? h1;have:=word_at (l:=l) (k:=o) (by
  rw [List.all_eq_true];intro x hx;simp only [bne_iff_ne];rintro rfl;obtain ⟨k,hk,e⟩:=List.getElem_of_mem hx;rw [List.length_take] at hk;rw [List.getElem_take] at e;exact h2 k om_ (by rw [List.getElem?_eq_getElem om_,e])) om_ (.inr (by simp [List.getD,h1]))
 exact .inr ⟨o,ho,hm,this.1.symm,this.2.symm⟩
theorem cut_32 (l:List UInt8):(Lib.cut l [32]).1=wordOf l:=by
 unfold Lib.cut;rcases idx_one l with ⟨h,hn⟩ | ⟨i,h,_,h1,_⟩
 · rw [h,if_neg om_,(word_none hn).1]
 rw [h,if_pos om_];exact h1
def parts1 (l:List UInt8) (n:Nat):List (List UInt8):=Lib.splitK [32] 0 n l
theorem parts_zero (l:List UInt8):parts1 l 0=[l]:=rfl
theorem parts_no (n:Nat) (h:(32:UInt8)∉l):parts1 l n=[l]:=by
 cases n with
 | zero=>rfl
 | succ n=>
  unfold parts1 Lib.splitK;rcases idx_one l with ⟨h',_⟩ | ⟨i,_,hm,_⟩
  · rw [h'];rfl
  exact absurd hm h
theorem parts_yes (n:Nat) (h:(32:UInt8)∈l):parts1 l (n+1)=wordOf l::parts1 (restOf l) n:=by
 unfold parts1;rw [Lib.splitK];rcases idx_one l with ⟨_,hn⟩ | ⟨i,hi,_,h1,h2⟩
 · exact absurd h hn
 rw [hi,if_neg sm_];simp only [Int.toNat_natCast,Nat.add_zero,List.length_singleton,h1,h2]
theorem split10 {b q:List UInt8} (ha:(10:UInt8)∉a) (hb:(10:UInt8)∉b) (h:a++10::r=b++10::q):a=b/\r=q:=by
 induction a generalizing b with
 | nil=>
  cases b with
  | nil=>simpa using h
  | cons c b=>simp at h;exact absurd (by rw [h.1];simp) hb
 | cons d a ih=>
  cases b with
  | nil=>simp at h;exact absurd (by rw [h.1];simp) ha
  | cons c b=>
   simp only [List.cons_append,List.cons.injEq] at h;obtain ⟨h1,h2⟩:=ih (fun h=>ha (List.mem_cons_of_mem _ h)) (fun h=>hb (List.mem_cons_of_mem _ h)) h.2;exact ⟨by rw [h.1,h1],h2⟩
theorem tx_inj {a:ByteArray} (h:a.data.toList=b.data.toList):a=b:=ByteArray.ext (Array.toList_inj.1 h)
theorem cut_10 (l:List UInt8):((Lib.cut l [10]).2.2=true/\l=(Lib.cut l [10]).1++10::(Lib.cut l [10]).2.1/\(10:UInt8)∉(Lib.cut l [10]).1)\/((Lib.cut l [10]).2.2=false/\(Lib.cut l [10]).1=l/\(10:UInt8)∉l):=by
 unfold Lib.cut;rw [Lib.index_one];have hge:=Lib.indexByte_ge l 10;by_cases h:Lib.indexByte l 10=-1
 · rw [h,if_neg om_]
   refine .inr ⟨rfl,rfl,fun hm=>?_⟩;obtain ⟨k,hk,e⟩:=List.getElem_of_mem hm;exact Lib.indexByte_none h k (by rw [List.getElem?_eq_getElem hk,e])
 obtain ⟨o,ho⟩:∃ o:Nat,Lib.indexByte l 10=o:=⟨(Lib.indexByte l 10).toNat,om_⟩;obtain ⟨h1,h2⟩:=Lib.indexByte_some ho;have hl:o<l.length:=by
  rcases Nat.lt_or_ge o l.length with h | h
  · exact h
  rw [List.getElem?_eq_none h] at h1;cases h1
 rw [ho,if_pos om_];refine .inl ⟨rfl,?_,fun hm=>?_⟩
 · simp only [Int.toNat_natCast,List.length_singleton]
   have hx:l[o]=10:=by rw [List.getElem?_eq_getElem hl] at h1;exact Option.some.inj h1
   conv=>lhs;rw [<- List.take_append_drop o l,List.drop_eq_getElem_cons hl,hx]
 simp only [Int.toNat_natCast] at hm;obtain ⟨k,hk,e⟩:=List.getElem_of_mem hm;rw [List.length_take] at hk;rw [List.getElem_take] at e;exact h2 k om_ (by rw [List.getElem?_eq_getElem om_,e])
theorem cst_line (p:List (List UInt8)×List UInt8) (a:List UInt8) (h:(10:UInt8)∉a):(a++[10]).foldl (cst 10) p=(p.1++[p.2++a],[]):=by
 induction a generalizing p with
 | nil=>simp [cst]
 | cons c a ih=>
  have hc:c≠10:=fun e=>h (by rw [e];simp);rw [List.cons_append,List.foldl_cons,ih _ (fun h'=>h (List.mem_cons_of_mem _ h'))];simp [cst,hc]
theorem cut_piece (b:UInt8) (l:List UInt8) (p:List (List UInt8)×List UInt8) (N:Nat) (h1:∀ x∈p.1,x.length<=N) (h2:p.2.length+l.length<=N):(∀ x∈(l.foldl (cst b) p).1,x.length<=N)/\(l.foldl (cst b) p).2.length<=N:=by
 induction l generalizing p with
 | nil=>exact ⟨h1,by simpa using h2⟩
 | cons c l ih=>
  rw [List.foldl_cons];apply ih
  · unfold cst;split
    · intro x hx
      rcases List.mem_append.1 hx with h | h
      · exact h1 x h
      simp at h;subst h;simp at h2;omega
    exact h1
  simp only [List.length_cons] at h2;unfold cst;split
  · simp;omega
  simp;omega
theorem cut_small (b:UInt8) (l:List UInt8) (k:Nat):((cutS b l).getD k []).length<=l.length:=by
 obtain ⟨h1,h2⟩:=cut_piece b l ([],[]) l.length sm_ sm_;have h:∀ x∈cutS b l,x.length<=l.length:=by
  intro x hx;unfold cutS cstate at hx;rcases List.mem_append.1 hx with h | h
  · exact h1 x h
  simp at h;subst h;exact h2
 rcases Nat.lt_or_ge k (cutS b l).length with hk | hk
 · rw [List.getD,List.getElem?_eq_getElem hk];exact h _ (List.getElem_mem hk)
 rw [List.getD,List.getElem?_eq_none hk];simp
theorem cut_len (b:UInt8) (l:List UInt8):1<=(cutS b l).length/\(cutS b l).length<=l.length+1:=by
 have:=cstate_le b l;unfold cutS;rw [List.length_append,List.length_singleton];omega
theorem lean1_iff (l:List UInt8):lean1 l=true↔l≠[]/\(l.headD 0=48->l=[48]):=by
 cases l with
 | nil=>simp [lean1]
 | cons a r=>
  by_cases h:a=48
  · simp [lean1,h]
  simp [lean1,h]
theorem n40_yes (h1:lean1 l=true) (h2:l.all isDig=true) (h3:val l<=40):num40 l=true:=by
 have hd:decide (val l<=40)=true:=by simpa using h3
 simp only [num40,h1,h2,hd,Bool.and_self]
theorem byte_sub (c:UInt8) (h:48<=(c.toNat:Int)/\(c.toNat:Int)<=57):IntKind.u8.wrap ((c.toNat:Int) - 48)=(c.toNat:Int) - 48:=by
 simp [IntKind.wrap,IntKind.signed,IntKind.bits];omega
def n29 (l:List UInt8):Int:=if (1<=l.length/\l.length<=7)/\l.all isDig=true/\dec (val l)=l then val l else -1
theorem n29_len (h:¬ (1<=l.length/\l.length<=7)):n29 l=-1:=by unfold n29;rw [if_neg (fun x=>h x.1)]
theorem n29_dig (h:l.all isDig=false):n29 l=-1:=by unfold n29;rw [if_neg (fun x=>by rw [h] at x;cases x.2.1)]
theorem n29_dec (h:dec (val l)≠l):n29 l=-1:=by unfold n29;rw [if_neg (fun x=>h x.2.2)]
theorem n29_yes (h:1<=l.length/\l.length<=7) (h2:l.all isDig=true) (h3:dec (val l)=l):n29 l=val l:=by unfold n29;rw [if_pos ⟨h,h2,h3⟩]
theorem n29_num40 (l:List UInt8):decide (0<=n29 l/\n29 l<=40)=num40 l:=by
 by_cases h:num40 l=true
 · rw [h]
   have h':=h;simp only [num40,Bool.and_eq_true,decide_eq_true_eq] at h';obtain ⟨⟨h1,h2⟩,h3⟩:=h';have hl:=val_dig_len l h2 h1 h3;have hne:l≠[]:=((lean1_iff l).1 h1).1;have h1':1<=l.length:=List.length_pos_iff.2 hne;rw [n29_yes ⟨h1',om_⟩ h2 (dec_val l h2 h1).1];have:=val_nonneg l h2;simp only [decide_eq_true_eq];omega
 have h':num40 l=false:=by simpa using h
 rw [h'];simp only [decide_eq_false_iff_not];intro ⟨a,b⟩;unfold n29 at a b;by_cases c:(1<=l.length/\l.length<=7)/\l.all isDig=true/\dec (val l)=l
 · rw [if_pos c] at a b
   have hd:=(dec_lean ((val l).toNat+1) (val l) a om_).1;rw [c.2.2] at hd;rw [n40_yes hd c.2.1 b] at h';cases h'
 rw [if_neg c] at a;omega
theorem val_bound (l:List UInt8) (h:l.all isDig=true):val l<10 ^ l.length:=by
 revert h;refine snoc_ind (P:=fun l=>l.all isDig=true->val l<10 ^ l.length) (by simp [val]) (fun l c ih h=>?_) l;rw [List.all_append] at h;simp only [List.all_cons,List.all_nil,Bool.and_true,Bool.and_eq_true] at h;have:=ih h.1;have hc:=(dig_iff c).1 h.2;rw [val_snoc,List.length_append,List.length_singleton,Int.pow_succ];omega
theorem val_seven (l:List UInt8) (h:l.all isDig=true) (hl:l.length<=7):val l<=10000000:=by
 have h1:=val_bound l h;have h2:(10:Int) ^ l.length<=10 ^ 7:=by exact_mod_cast Nat.pow_le_pow_right om_ hl
 omega
def MaxAt (w:World):Prop:=1<w.heap.size/\∃ m,w.cell? ⟨1,0,none⟩=some (.int .i64 m)
theorem max_below {w':World} (h:MaxAt w) (hb:Below w.heap.size w w'):MaxAt w':=by
 obtain ⟨h1,m,hm⟩:=h;exact ⟨Nat.lt_of_lt_of_le h1 hb.size,m,by rw [hb.cell (by exact h1)];exact hm⟩
theorem below_drewN (n:Nat):Below w.heap.size w (w.drewN n):=⟨rfl,rfl,rfl,Nat.le_refl _,fun _ _=>rfl⟩
theorem toL_inj {ss:List ByteArray} (h:ss.map (·.data.toList)=ls):ss=ls.map ofL:=by
 rw [<- h,List.map_map]
 conv=>lhs;rw [<- List.map_id ss]
 refine List.map_congr_left fun s _=>?_;exact ext_ofL rfl
theorem past {v:Value} (hp:p.block<w.heap.size) (h:w.cell? p=some v) (o:Obj):(w.alloc o).cell? p=some v:=by
 rw [((Below.refl w.heap.size w).alloc lr_ o).cell hp];exact h
theorem pastf (hp:p.block<w.heap.size) (h:w.frozen? p=false) (o:Obj):(w.alloc o).frozen? p=false:=by
 rw [((Below.refl w.heap.size w).alloc lr_ o).frozen hp];exact h
theorem row3n (w:World) (x y z:Value) (t:TypeId):∀ j u,[x,y,z][j]?=some u->(w.alloc (.cells #[x,y,z] t)).cell? ((⟨w.heap.size,0,none⟩:Addr).add j)=some u:=by
 intro j u h
 match j,h with
 | 0,h=>simp at h;subst h;simp [Addr.add]
 | 1,h=>simp at h;subst h;simp [Addr.add]
 | 2,h=>simp at h;subst h;simp [Addr.add]
theorem row3g (hg:g=w.heap.size) (x y z:Value) (t:TypeId):∀ j u,[x,y,z][j]?=some u->(w.alloc (.cells #[x,y,z] t)).cell? ((⟨g,0,none⟩:Addr).add j)=some u:=by
 subst hg;exact row3n w x y z t
theorem row_form3 {v:Value} (h:w.ownsRow B e 3 v n xs):∃ ao c,v=.slice ao n c:=by
 rcases h.2 with ⟨hv,h0⟩ | ⟨g,cap,cur,hv,_⟩
 · exact ⟨none,0,by rw [hv,h0]⟩
 exact ⟨_,_,hv⟩
theorem owns_mono {B':Nat} {v:Value} (h:w.ownsRow B e size v n xs) (hB:B'<=B):w.ownsRow B' e size v n xs:=by
 refine ⟨h.1,?_⟩;rcases h.2 with h2 | ⟨g,cap,cur,hv,hg,r⟩
 · exact .inl h2
 exact .inr ⟨g,cap,cur,hv,om_,r⟩
def strOf:Value->Nat | .string s=>s.size | _=>0
theorem ofL_self (s:ByteArray):ofL s.data.toList=s:=(ext_ofL rfl).symm
def vr (c:Int) (l:List UInt8):Bool:=
 if c=0\/c=1 then decide (l.length<=300) else if c=2 then num40 l else if c=3 then l.isEmpty else if c=4\/c=5\/c=7 then nameOk l else false
theorem num40_len (h:num40 l=true):l.length<=2:=by
 simp only [num40,Bool.and_eq_true,decide_eq_true_eq] at h;exact val_dig_len l h.1.2 h.1.1 h.2
theorem vr_long (h:300<l.length):vr c l=false:=by
 have h1:decide (l.length<=300)=false:=by simp only [decide_eq_false_iff_not];omega
 have h2:num40 l=false:=by
  by_cases h2:num40 l=true
  · have:=num40_len h2;omega
  simpa using h2
 have h3:l.isEmpty=false:=by cases l with | nil=>simp at h | cons a r=>rfl
 have h4:nameOk l=false:=by
  unfold nameOk;have:decide (1<=l.length/\l.length<=20)=false:=by simp only [decide_eq_false_iff_not];omega
  rw [this];rfl
 unfold vr;rw [h1,h2,h3,h4];split <;> (try rfl)
 split <;> (try rfl)
 split <;> (try rfl)
 split <;> rfl
end Go.Proofs.YthjhakdpikdoeaaGreatDoor
namespace Go.Proofs.YthjhakdpikdoeaaGreatDoor
open Go.RowKit
structure I3 where
 op:Int
 tx:ByteArray
 to:Int
def i3z:I3:=⟨0,⟨#[]⟩,0⟩
def I3.v (x:I3):Value:=.agg #[.int .i64 x.op,.string x.tx,.int .i64 x.to]
def InsAt (w:World) (a:Option Addr) (is:List I3):Prop:=
 is=[]\/∃ b off,a=some ⟨b,off,none⟩/\b<w.heap.size/\∀ i,i<is.length->w.cell? ⟨b,off+i*3,none⟩=some (.int .i64 (is.getD i i3z).op)/\w.cell? ⟨b,off+i*3+1,none⟩=some (.string (is.getD i i3z).tx)/\w.cell? ⟨b,off+i*3+2,none⟩=some (.int .i64 (is.getD i i3z).to)
theorem ins_some {w:World} {a:Option Addr} {is:List I3} (h:InsAt w a is):∃ b off,(is=[]\/(a=some ⟨b,off,none⟩/\b<w.heap.size/\∀ i,i<is.length->w.cell? ⟨b,off+i*3,none⟩=some (.int .i64 (is.getD i i3z).op)/\w.cell? ⟨b,off+i*3+1,none⟩=some (.string (is.getD i i3z).tx)/\w.cell? ⟨b,off+i*3+2,none⟩=some (.int .i64 (is.getD i i3z).to))):=by
 rcases h with h | ⟨b,off,h⟩
 · exact ⟨0,0,.inl h⟩
 exact ⟨b,off,.inr h⟩
theorem ins_below {w w':World} {a:Option Addr} {is:List I3} (h:InsAt w a is) (hb:Below w.heap.size w w'):InsAt w' a is:=by
 rcases h with h | ⟨b,off,h1,h2,h3⟩
 · exact .inl h
 exact .inr ⟨b,off,h1,Nat.lt_of_lt_of_le h2 hb.size,fun i hi=>by rw [hb.cell (by exact h2),hb.cell (by exact h2),hb.cell (by exact h2)];exact h3 i hi⟩
theorem getD_small3 {is:List I3} {B:Nat} (h:∀ i,i<is.length->(is.getD i i3z).tx.size<=B) (i:Nat):(is.getD i i3z).tx.size<=B:=by
 rcases Nat.lt_or_ge i is.length with h' | h'
 · exact h i h'
 have e:is.getD i i3z=i3z:=by simp [List.getD,List.getElem?_eq_none h']
 rw [e];exact Nat.zero_le _
theorem info92:(Tryz.prog.info? 92).map (fun i=>(i.zero,i.size,i.bytes))=some (some (.agg #[.int .i64 0,.string ⟨#[]⟩,.int .i64 0]),3,32):=kr_
end Go.Proofs.YthjhakdpikdoeaaGreatDoor
namespace Go.Proofs.YthjhakdpikdoeaaGreatDoor.M
open Go.RowKit
end Go.Proofs.YthjhakdpikdoeaaGreatDoor.M
namespace Go.Proofs.YthjhakdpikdoeaaGreatDoor
open Proofs.Tryz
open Go.RowKit
variable {w:World} {B b base n size:Nat} {o:Obj} {e:TypeId} {v:Value} {xs:List Value}
theorem info142:(prog.info? 142).map (fun i=>i.size)=some 2:=kr_
theorem info5:(prog.info? 5).map (fun i=>(i.zero,i.size,i.bytes))=some (some (.int .u8 0),1,1):=kr_
theorem lies142:liesAt prog prog.depth 142 (2 / prog.cellsOf 142) 0 142 1=true:=kr_
theorem check_used (b:Nat) (w:World) (h0:w.cell? ⟨b,0,none⟩=some (.pointer (some ⟨b,0,none⟩))):
 Calls prog 175 #[.pointer (some ⟨b,0,none⟩)] w fun e w'=>e=.returned (.tuple #[])/\w'=w:=by
 obtain ⟨j,hj,_⟩:=Option.map_eq_some_iff.1 info142;have kn:=Lib.run_neq_ptr_same (P:=prog) w ⟨b,0,none⟩ underlying140 hj;go_enter func175,ntmps175;go_wp2
 go_end0
 exact ⟨rfl,rfl⟩
theorem check_fresh (b:Nat) (w:World) (h0:w.cell? ⟨b,0,none⟩=some (.pointer none)) (hsh:w.shape? b=some (142,2)) (hfz:w.frozen? ⟨b,0,none⟩=false):
 Calls prog 175 #[.pointer (some ⟨b,0,none⟩)] w fun e w'=>e=.returned (.tuple #[])/\w'=w.setCell ⟨b,0,none⟩ (.pointer (some ⟨b,0,none⟩)):=by
 obtain ⟨j,hj,hjs⟩:=Option.map_eq_some_iff.1 info142;have k1:=Lib.run_to_unsafe (P:=prog) w ⟨b,0,none⟩ underlying140 underlying222 hj (by rw [hjs];decide) hsh (Nat.zero_lt_succ 1);have k3:=Lib.run_from_unsafe (P:=prog) w ⟨b,0,none⟩ underlying222 underlying140 hj hsh lies142;have k2:∀ x,Sem.run prog (callFunc 186 #[x]) w=.ok (.value x) w:=fun x=>by
  rw [run_callFunc_extern func186 kr_ kr_ kr_ (e:=Extern.AbiNoEscape.same) kr_];rw [Lib.run_noEscape];rfl
 go_enter func175,ntmps175;go_wp2
 go_end0
 exact ⟨rfl,rfl⟩
theorem c175 (B b:Nat) (bs:List Value) (w:World) (h:Lib.IsBuilder 142 5 B b bs w):
 Calls prog 175 #[.pointer (some ⟨b,0,none⟩)] w fun e w'=>e=.returned (.tuple #[])/\Lib.BuilderAt 142 5 B b (.pointer (some ⟨b,0,none⟩)) bs w'/\Below B w w'/\w'.heap.size=w.heap.size:=by
 rcases h with h | h
 · refine (check_fresh b w h.cell0 h.shape h.frozen0).mono ?_
   rintro e w' ⟨rfl,rfl⟩;exact ⟨rfl,h.used _,(Below.refl B w).setCell (p:=⟨b,0,none⟩) h.1 _,sm_⟩
 refine (check_used b w h.cell0).mono ?_;rintro e w' ⟨rfl,rfl⟩;exact ⟨rfl,h,Below.refl B _,rfl⟩
theorem blk_lt (h:w.heap[b]?=some o):b<w.heap.size:=by
 rcases Nat.lt_or_ge b w.heap.size with h' | h'
 · exact h'
 simp [Array.getElem?_eq_none h'] at h
theorem row_form (h:w.ownsRow B e 1 v n xs):∃ ao c,v=.slice ao n c:=by
 rcases h.2 with ⟨hv,h0⟩ | ⟨g,cap,cur,hv,_⟩
 · exact ⟨none,0,by rw [hv,h0]⟩
 exact ⟨_,_,hv⟩
theorem app_keeps {w1 w2:World} (hbk:w1.heap[b]?=some o) (hne:v.ownBlock≠some b) (hg:w1.grownBy w2 v.ownBlock):w2.heap[b]?=some o:=by
 rw [hg.block b (blk_lt hbk) (fun e=>hne e.symm)];exact hbk
theorem c153 (B b:Nat) (bs:List Value) (c:Int) (w:World) (h:Lib.IsBuilder 142 5 B b bs w) (hlen:bs.length+1<=140737488355328) (hBw:B<=w.heap.size):
 Calls prog 153 #[.pointer (some ⟨b,0,none⟩),.int .u8 c] w fun e w'=>e=.returned .nilIface/\Lib.IsBuilder 142 5 B b (bs++[.int .u8 c]) w'/\Below B w w':=by
 obtain ⟨i0,hi,hz0,hz1,hz2⟩:=info_parts info5;have HI:Hid (Lib.IsBuilder 142 5 B b bs w):=h;clear h;go_enter func153,ntmps153
 go_wp2_with fail
 refine (c175 B b bs w HI.out).mono ?_;rintro e w1 ⟨rfl,h1,hb1,hs1⟩;obtain ⟨hB,v,hbk,hown,hne⟩:=h1;have hB1:B<=w1.heap.size:=om_;have HBK:Hid (w1.heap[b]?=some (.cells #[.pointer (some ⟨b,0,none⟩),v] 142 (0,0))):=hbk;have HNE:Hid (v.ownBlock≠some b):=hne;have c1:w1.cell? ⟨b,1,none⟩=some v:=by rw [Lib.cell_of_heap hbk];rfl
 clear hbk hne hs1
 go_wp2_with (at_builtin;refine wpList_append_own _ rfl _ _ 22 rfl B 5 i0 (.int .u8 0) 1 1 underlying22 hi hz0 hz1 hz2 rfl dc_ _ _ _ rfl (hown.alloc _) ⟨w1.heap.size,0,none⟩ 1 1 [.int .u8 c] rfl rfl (cell_one_new _ _ _) (by intro u hu;simp at hu;subst hu;rfl) (by unfold maxLen;omega) om_ so_ ?_;intro v' w2 hown' hgrow _;have HB2:Hid (w2.heap[b]?=some (.cells #[.pointer (some ⟨b,0,none⟩),v] 142 (0,0))):=app_keeps (v:=v) (by rw [Below.heap_alloc w1 _ b (blk_lt HBK.out)];exact HBK.out) HNE.out hgrow;have HG:Hid (Below B w w2):=(hb1.alloc hB1 _).grown hgrow so_ (fun k hk=>(hown.lt k hk).1);obtain ⟨ao,cp,rfl⟩:=row_form hown';have d1:w2.cell? ⟨b,1,none⟩=some v:=(by rw [Lib.cell_of_heap HB2.out];rfl);have f1:w2.frozen? ⟨b,1,none⟩=false:=Lib.frozen_of_heap HB2.out 1;clear hgrow)
 go_ret;refine ⟨rfl,.inr ?_,?_⟩
 · exact Lib.BuilderAt.put (T:=142) (e:=5) hB HB2.out (bs':=bs++[.int .u8 c]) (by simpa using hown') dc_
 exact HG.out.setCell (p:=⟨b,1,none⟩) hB _
theorem ownsRow_below {w':World} (h:w.ownsRow base e size v n xs) (hb:Below w.heap.size w w'):w'.ownsRow base e size v n xs:=by
 obtain ⟨h1,h2⟩:=h;refine ⟨h1,?_⟩;rcases h2 with h | ⟨g,cap,cur,hv,hg,hh,hr⟩
 · exact .inl h
 exact .inr ⟨g,cap,cur,hv,hg,by rw [hb.block g (blk_lt hh)];exact hh,hr⟩
def plainB (c:UInt8):Bool:=decide (32<=(c.toNat:Int))&&decide ((c.toNat:Int)<=126)&&!((c.toNat:Int)==34)&&!((c.toNat:Int)==92)
theorem ret_str {a b:ByteArray} (h:a=b):Ending.returned (.string a)=.returned (.string b):=by rw [h]
theorem c152 (c:UInt8) (w:World):
 Calls prog 152 #[.int .u8 c.toNat] w fun e w'=>e=.returned (.bool (plainB c))/\w'=w:=by
 go_enter func152,ntmps152;go_wp2
 all_goals go_ret
 all_goals refine ⟨ret_bool ?_,rfl⟩
 all_goals unfold plainB
 all_goals simp [*]
 all_goals first | omega | skip
 all_goals (try (simp only [bne]))
def hexL:List UInt8:=[48,49,50,51,52,53,54,55,56,57,97,98,99,100,101,102]
def hexA:ByteArray:=⟨#[48,49,50,51,52,53,54,55,56,57,97,98,99,100,101,102]⟩
theorem hex_get (n:Nat) (h:n<hexA.size):hexA[n]=hexL.getD n 0:=by
 have h':n<16:=h;obtain rfl | rfl | rfl | rfl | rfl | rfl | rfl | rfl | rfl | rfl | rfl | rfl | rfl | rfl | rfl | rfl:n=0\/n=1\/n=2\/n=3\/n=4\/n=5\/n=6\/n=7\/n=8\/n=9\/n=10\/n=11\/n=12\/n=13\/n=14\/n=15:=om_
 all_goals rfl
def qb (c:UInt8):List UInt8:=if plainB c=true then [c] else [92,hexL.getD (c.toNat / 16) 0,hexL.getD (c.toNat % 16) 0]
def quoteL (l:List UInt8):List UInt8:=34::(l.flatMap qb++[34])
theorem qb_len (c:UInt8):(qb c).length<=3:=by unfold qb;split <;> simp
theorem flat_len (l:List UInt8):(l.flatMap qb).length<=3*l.length:=by
 induction l with
 | nil=>simp
 | cons c l ih=>have:=qb_len c;simp only [List.flatMap_cons,List.length_append,List.length_cons];omega
theorem quote_len (l:List UInt8):(quoteL l).length<=3*l.length+2:=by
 have:=flat_len l;unfold quoteL;simp only [List.length_cons,List.length_append,List.length_nil];omega
theorem cells_snoc (l r:List UInt8):Lib.byteCells (l++r)=Lib.byteCells l++Lib.byteCells r:=by simp [Lib.byteCells]
theorem cells_len (l:List UInt8):(Lib.byteCells l).length=l.length:=by simp [Lib.byteCells]
end Go.Proofs.YthjhakdpikdoeaaGreatDoor
namespace Go.Proofs.YthjhakdpikdoeaaGreatDoor.M
open Go.RowKit
structure L4 where
 has:Bool
 nm:ByteArray
 cd:Int
 tx:ByteArray
def l4z:L4:=⟨false,⟨#[]⟩,0,⟨#[]⟩⟩
def L4.le (x:L4) (B:Nat):Prop:=x.nm.size<=B/\x.tx.size<=B
def LksAt (w:World) (a:Option Addr) (is:List L4):Prop:=
 is=[]\/∃ b off,a=some ⟨b,off,none⟩/\b<w.heap.size/\∀ i,i<is.length->w.cell? ⟨b,off+i*4,none⟩=some (.bool (is.getD i l4z).has)/\w.cell? ⟨b,off+i*4+1,none⟩=some (.string (is.getD i l4z).nm)/\w.cell? ⟨b,off+i*4+2,none⟩=some (.int .i64 (is.getD i l4z).cd)/\w.cell? ⟨b,off+i*4+3,none⟩=some (.string (is.getD i l4z).tx)
theorem lks_some {w:World} {a:Option Addr} {is:List L4} (h:LksAt w a is):∃ b off,(is=[]\/(a=some ⟨b,off,none⟩/\b<w.heap.size/\∀ i,i<is.length->w.cell? ⟨b,off+i*4,none⟩=some (.bool (is.getD i l4z).has)/\w.cell? ⟨b,off+i*4+1,none⟩=some (.string (is.getD i l4z).nm)/\w.cell? ⟨b,off+i*4+2,none⟩=some (.int .i64 (is.getD i l4z).cd)/\w.cell? ⟨b,off+i*4+3,none⟩=some (.string (is.getD i l4z).tx))):=by
 rcases h with h | ⟨b,off,h⟩
 · exact ⟨0,0,.inl h⟩
 exact ⟨b,off,.inr h⟩
theorem lks_below {w w':World} {a:Option Addr} {is:List L4} (h:LksAt w a is) (hb:Below w.heap.size w w'):LksAt w' a is:=by
 rcases h with h | ⟨b,off,h1,h2,h3⟩
 · exact .inl h
 exact .inr ⟨b,off,h1,Nat.lt_of_lt_of_le h2 hb.size,fun i hi=>by rw [hb.cell (by exact h2),hb.cell (by exact h2),hb.cell (by exact h2),hb.cell (by exact h2)];exact h3 i hi⟩
theorem lks_set {w:World} {a:Option Addr} {is:List L4} {q:Addr} {v:Value} (h:LksAt w a is) (hq:∀ b off,a=some ⟨b,off,none⟩->is≠[]->q.block≠b):LksAt (w.setCell q v) a is:=by
 rcases Nat.eq_zero_or_pos is.length with e | e
 · exact .inl (List.eq_nil_of_length_eq_zero e)
 have hn:is≠[]:=fun c=>by rw [c] at e;simp at e
 rcases h with h | ⟨b,off,h1,h2,h3⟩
 · exact absurd h hn
 have hne:∀ j,q≠⟨b,j,none⟩:=fun j e=>hq b off h1 hn (by rw [e]);refine .inr ⟨b,off,h1,by simpa using h2,fun i hi=>?_⟩;rw [World.cell?_setCell_other _ _ _ _ (hne _),World.cell?_setCell_other _ _ _ _ (hne _),World.cell?_setCell_other _ _ _ _ (hne _),World.cell?_setCell_other _ _ _ _ (hne _)];exact h3 i hi
def BlkAt (u:World) (B:Nat) (vs:List Value):Prop:=∀ j v,vs[j]?=some v->u.cell? ⟨B,j,none⟩=some v
def OpnAt (u:World) (B:Nat):Prop:=∀ j,u.frozen? ⟨B,j,none⟩=false
theorem blk_new (w:World) (vs:List Value) (t:TypeId):BlkAt (w.alloc (.cells vs.toArray t)) w.heap.size vs:=fun j v h=>by
 simp [go_sem,h]
theorem opn_new (w:World) (a:Array Value) (t:TypeId):OpnAt (w.alloc (.cells a t)) w.heap.size:=fun j=>by simp [go_sem]
theorem BlkAt.below {u u':World} {B N:Nat} {vs:List Value} (h:BlkAt u B vs) (hb:Below N u u') (hN:B<N):BlkAt u' B vs:=fun j v e=>(hb.cell (p:=⟨B,j,none⟩) hN).trans (h j v e)
theorem OpnAt.below {u u':World} {B N:Nat} (h:OpnAt u B) (hb:Below N u u') (hN:B<N):OpnAt u' B:=fun j=>(hb.frozen (p:=⟨B,j,none⟩) hN).trans (h j)
theorem BlkAt.set {u:World} {B:Nat} {vs:List Value} (h:BlkAt u B vs) (j:Nat) (v:Value) (hj:j<vs.length):BlkAt (u.setCell ⟨B,j,none⟩ v) B (vs.set j v):=fun i x e=>by
 rcases Nat.decEq i j with hne | rfl
 · rw [World.cell?_setCell_other _ _ _ _ (adr_ne (fun e=>hne e.symm))]
   rw [List.getElem?_set_ne (fun h=>hne h.symm)] at e;exact h i x e
 rw [List.getElem?_set_self hj] at e;obtain rfl:=Option.some.inj e;exact World.cell?_setCell_same _ _ _ (h i _ (List.getElem?_eq_getElem hj))
theorem OpnAt.set {u:World} {B:Nat} (h:OpnAt u B) (p:Addr) (v:Value):OpnAt (u.setCell p v) B:=fun j=>by simpa using h j
def fill (u:World) (B:Nat):Nat->List Value->World
 | _,[]=>u
 | j,v::vs=>fill (u.setCell ⟨B,j,none⟩ v) B (j+1) vs
theorem below_fill {B N:Nat} {w:World} (hN:N<=B) (vs:List Value):∀ {u:World} (j:Nat),Below N w u->Below N w (fill u B j vs):=by
 induction vs with
 | nil=>intro u j h;exact h
 | cons v vs ih=>intro u j h;exact ih (j+1) (h.setCell (p:=⟨B,j,none⟩) hN v)
structure D8 where
 nm:ByteArray
 made:Bool
 km:M3
 ls:List L4
 cd:Int
 tx:ByteArray
def D8.le (x:D8) (B:Nat):Prop:=x.nm.size<=B/\x.km.le B/\(x.ls.length<=B/\∀ i,(x.ls.getD i l4z).le B)/\x.tx.size<=B
structure T6 where
 over:Bool
 cd:Int
 tx:ByteArray
 has:Bool
 nm:ByteArray
 st:Int
def T6.le (x:T6) (B:Nat):Prop:=x.tx.size<=B/\x.nm.size<=B
structure G16 where
 kd:Int
 to:Int
 fr:Int
 ep:Int
 ed:Int
 km:M3
 ls:List L4
 ct:Int
 tn:T6
def G16.le (x:G16) (B:Nat):Prop:=x.km.le B/\(x.ls.length<=B/\∀ i,(x.ls.getD i l4z).le B)/\x.tn.le B
end Go.Proofs.YthjhakdpikdoeaaGreatDoor.M
namespace Go.Proofs.YthjhakdpikdoeaaGreatDoor.G.T
open Proofs.Tryz
open Go.RowKit
structure F2 where
 nm:ByteArray
 tx:ByteArray
def f2z:F2:=⟨⟨#[]⟩,⟨#[]⟩⟩
def FilesAt (w:World) (a:Option Addr) (rs:List F2):Prop:=
 rs=[]\/∃ b off,a=some ⟨b,off,none⟩/\b<w.heap.size/\∀ i,i<rs.length->w.cell? ⟨b,off+i*2,none⟩=some (.string (rs.getD i f2z).nm)/\w.cell? ⟨b,off+i*2+1,none⟩=some (.string (rs.getD i f2z).tx)
theorem files_some {w:World} {a:Option Addr} {rs:List F2} (h:FilesAt w a rs):∃ b off,(rs=[]\/(a=some ⟨b,off,none⟩/\b<w.heap.size/\∀ i,i<rs.length->w.cell? ⟨b,off+i*2,none⟩=some (.string (rs.getD i f2z).nm)/\w.cell? ⟨b,off+i*2+1,none⟩=some (.string (rs.getD i f2z).tx))):=by
 rcases h with h | ⟨b,off,h⟩
 · exact ⟨0,0,.inl h⟩
 exact ⟨b,off,.inr h⟩
theorem files_below {w w':World} {a:Option Addr} {rs:List F2} (h:FilesAt w a rs) (hb:Below w.heap.size w w'):FilesAt w' a rs:=by
 rcases h with h | ⟨b,off,h1,h2,h3⟩
 · exact .inl h
 exact .inr ⟨b,off,h1,Nat.lt_of_lt_of_le h2 hb.size,fun i hi=>by rw [hb.cell (by exact h2),hb.cell (by exact h2)];exact h3 i hi⟩
def F2.le (x:F2) (B:Nat):Prop:=x.nm.size<=B/\x.tx.size<=B
def Unf (w:World) (g:Nat):Prop:=g<w.heap.size/\∀ j,w.frozen? ⟨g,j,none⟩=false
theorem Unf.set {w:World} {g:Nat} {p:Addr} {v:Value} (h:Unf w g):Unf (w.setCell p v) g:=⟨by simpa using h.1,fun j=>by simpa using h.2 j⟩
def fileOk (x:F2):Bool:=nameOk x.nm.data.toList&&decide ((x.tx.size:Int)<=300)
theorem c100 (x:F2) (w:World) (hs:x.le 1048700):
 Calls prog 100 #[.agg #[.string x.nm,.string x.tx]] w fun e w'=>e=.returned (.bool (fileOk x))/\Below w.heap.size w w':=by
 have HF:Hid (fileOk x=(nameOk x.nm.data.toList&&decide ((x.tx.size:Int)<=300))):=rfl;obtain ⟨h1,h2⟩:=hs;go_enter func100,ntmps100
 go_wp2_with fail
 refine (c63 _ _ h1).mono ?_;rintro e w1 ⟨rfl,rfl⟩;cases hn:nameOk x.nm.data.toList
 all_goals
  rw [hn] at HF;go_wp2
  all_goals go_ret
  all_goals exact ⟨ret_bool (by rw [HF.out];simp),bA⟩
theorem c100v {x:F2} {v:Bool} (hv:fileOk x=v) (w:World) (hs:x.le 1048700):
 Calls prog 100 #[.agg #[.string x.nm,.string x.tx]] w fun e w'=>e=.returned (.bool v)/\Below w.heap.size w w':=hv▸c100 x w hs
def stepOk (fs:List F2) (k:Nat):Bool:=fileOk (fs.getD k f2z)&&(decide (k=0) || Op.bytesLess (fs.getD (k - 1) f2z).nm.toList (fs.getD k f2z).nm.toList)
def treeOk (fs:List F2):Prop:=fs.length<=40/\∀ k,k<fs.length->stepOk fs k=true
theorem c99 (a:Option Addr) (cap:Nat) (fs:List F2) (w:World) (hl:fs.length<=1048576) (hs:∀ i,(fs.getD i f2z).le 1048576) (hat:FilesAt w a fs):
 Calls prog 99 #[.agg #[.slice a fs.length cap]] w fun e w'=>(∃ b:Bool,e=.returned (.bool b)/\(b=true↔treeOk fs))/\Below w.heap.size w w':=by
 obtain ⟨b,off,hc⟩:=files_some hat;have HC:Hid (fs=[]\/(a=some ⟨b,off,none⟩/\b<w.heap.size/\∀ i,i<fs.length->w.cell? ⟨b,off+i*2,none⟩=some (.string (fs.getD i f2z).nm)/\w.cell? ⟨b,off+i*2+1,none⟩=some (.string (fs.getD i f2z).tx))):=hc;clear hc hat;by_cases hbig:40<fs.length
 · go_enter func99,ntmps99
   go_wp2;go_ret;exact ⟨⟨false,rfl,by simp [treeOk];omega⟩,bA⟩
 go_enter func99,ntmps99
 go_wp2_with fail
 go_loopw [3] (fun i wr=>∃ k:Nat,k<=fs.length/\i=.int .i64 k/\Below w.heap.size w wr/\wr.cell? ⟨w.heap.size,0,none⟩=some (.slice a fs.length cap)/\w.heap.size+1<=wr.heap.size/\Hid (∀ j,j<k->stepOk fs j=true)) (fun i _=>fs.length - (intOf i).toNat)
 case atStart=>exact ⟨0,Nat.zero_le _,rfl,bA,sm_,sm_,fun j h=>absurd h (Nat.not_lt_zero _)⟩
 obtain ⟨k,hk,rfl,hb,t0,hz,hdone⟩:=hrel;by_cases hlt:k<fs.length;rotate_left
 · have hd':Hid (treeOk fs):=⟨om_,fun j hj=>hdone.out j om_⟩
   go_wp2;go_ret;exact ⟨⟨true,rfl,by simp only [true_iff];exact hd'.out⟩,hb⟩
 rcases HC.out with hss | ⟨ha,hbw,hcell⟩
 · rw [hss] at hlt;exact absurd hlt (Nat.not_lt_zero _)
 subst ha;have HB:Hid (Below w.heap.size w wr):=hb;have g0:=(hb.cell (p:=⟨b,off+k*2,none⟩) hbw).trans (hcell k hlt).1;have g1:=(hb.cell (p:=⟨b,off+k*2+1,none⟩) hbw).trans (hcell k hlt).2;have hbr:b<wr.heap.size:=Nat.lt_of_lt_of_le hbw hb.size;have hsx:Hid ((fs.getD k f2z).le 1048700):=⟨Nat.le_trans (hs k).1 om_,Nat.le_trans (hs k).2 om_⟩;rcases Nat.eq_zero_or_pos k with h0 | h0
 · subst h0
   have HS:Hid (stepOk fs 0=fileOk (fs.getD 0 f2z)):=by simp [stepOk,Hid]
   simp only [Nat.zero_mul,Nat.add_zero] at g0 g1;generalize fs.getD 0 f2z=x at*;clear hcell hb;cases hx:fileOk x
   · go_wp2_with fail
     refine wp_region_held_drew (S:=(fun u=>u.cell? ⟨w.heap.size,0,none⟩=some (.slice (some ⟨b,off,none⟩) fs.length cap)/\u.cell? ⟨b,off,none⟩=some (.string x.nm)/\u.cell? ⟨b,off+1,none⟩=some (.string x.tx))) kr_ ?_ fun hH=>?_
     · ((try dsimp only);go_keep)
     refine tq 0 hH ?_;refine tq 1 hH ?_
     try simp only [qq]
     refine tq 2 hH ?_;refine tq 3 hH ?_
     try simp only [qq]
     refine tq 4 hH ?_
     try simp only [qq]
     refine rq 5 fun K hK=>?_;go_simp;refine (c100v hx _ hsx.out).mono ?_;rintro e w1 ⟨rfl,hb1⟩;have HB1:Hid (Below wr.heap.size wr w1):=((Below.refl _ _).drew).trans hb1;have p0:=(HB1.out.cell (p:=⟨w.heap.size,0,none⟩) (by show w.heap.size<wr.heap.size;omega)).trans t0;have p1:=(HB1.out.cell (p:=⟨b,off,none⟩) hbr).trans g0;have p2:=(HB1.out.cell (p:=⟨b,off+1,none⟩) hbr).trans g1
     go_wp2_with fail
     clear hH;refine hK.out _ _ ?_ fun hH=>?_
     · ((try dsimp only);go_keep)
     clear hK K;refine tq 6 hH ?_;refine tq 7 hH ?_
     try simp only [qq]
     refine uq 8 hH ?_;refine uq 9 hH ?_
     try simp only [qq]
     refine uq 10 hH ?_;refine uq 11 hH ?_
     try simp only [qq]
     refine uq 12 hH ?_;refine uq 13 hH ?_
     try simp only [qq]
     refine uq 14 hH ?_;refine uq 15 hH ?_
     try simp only [qq]
     refine uq 16 hH ?_;refine uq 17 hH ?_
     try simp only [qq]
     refine uq 18 hH ?_;refine uq 19 hH ?_
     try simp only [qq]
     refine uq 20 hH ?_;refine uq 21 hH ?_
     try simp only [qq]
     refine uq 22 hH ?_;refine uq 23 hH ?_
     try simp only [qq]
     refine uq 24 hH ?_;refine uq 25 hH ?_
     try simp only [qq]
     refine tq 26 hH ?_
     try simp only [qq]
     refine wpAnyH_done kr_ ?_ _;have hB1:Below w.heap.size w w1:=bT HB.out HB1.out;rw [hx] at HS;clear hH;go_wp2;go_ret;exact ⟨⟨false,rfl,by simp only [Bool.false_eq_true,false_iff];intro h;have:=h.2 _ hlt;rw [HS.out] at this;cases this⟩,hB1⟩
   go_wp2_with fail
   refine wp_region_held_drew (S:=(fun u=>u.cell? ⟨w.heap.size,0,none⟩=some (.slice (some ⟨b,off,none⟩) fs.length cap)/\u.cell? ⟨b,off,none⟩=some (.string x.nm)/\u.cell? ⟨b,off+1,none⟩=some (.string x.tx))) kr_ ?_ fun hH=>?_
   · ((try dsimp only);go_keep)
   refine tq 0 hH ?_;refine tq 1 hH ?_
   try simp only [qq]
   refine tq 2 hH ?_;refine tq 3 hH ?_
   try simp only [qq]
   refine tq 4 hH ?_
   try simp only [qq]
   refine rq 5 fun K hK=>?_;go_simp;refine (c100v hx _ hsx.out).mono ?_;rintro e w1 ⟨rfl,hb1⟩;have HB1:Hid (Below wr.heap.size wr w1):=((Below.refl _ _).drew).trans hb1;have p0:=(HB1.out.cell (p:=⟨w.heap.size,0,none⟩) (by show w.heap.size<wr.heap.size;omega)).trans t0;have p1:=(HB1.out.cell (p:=⟨b,off,none⟩) hbr).trans g0;have p2:=(HB1.out.cell (p:=⟨b,off+1,none⟩) hbr).trans g1
   go_wp2_with fail
   clear hH;refine hK.out _ _ ?_ fun hH=>?_
   · ((try dsimp only);go_keep)
   clear hK K;refine tq 6 hH ?_;refine tq 7 hH ?_
   try simp only [qq]
   refine tq 8 hH ?_;refine tq 9 hH ?_
   try simp only [qq]
   refine tq 10 hH ?_;refine uq 11 hH ?_
   try simp only [qq]
   refine uq 12 hH ?_;refine uq 13 hH ?_
   try simp only [qq]
   refine uq 14 hH ?_;refine uq 15 hH ?_
   try simp only [qq]
   refine uq 16 hH ?_;refine uq 17 hH ?_
   try simp only [qq]
   refine uq 18 hH ?_;refine uq 19 hH ?_
   try simp only [qq]
   refine uq 20 hH ?_;refine uq 21 hH ?_
   try simp only [qq]
   refine uq 22 hH ?_;refine uq 23 hH ?_
   try simp only [qq]
   refine uq 24 hH ?_;refine tq 25 hH ?_
   try simp only [qq]
   refine tq 26 hH ?_
   try simp only [qq]
   refine wpAnyH_done kr_ ?_ _;have hB1:Below w.heap.size w w1:=bT HB.out HB1.out;have hz1:w.heap.size+1<=w1.heap.size:=Nat.le_trans hz HB1.out.size;rw [hx] at HS;have hd':Hid (∀ j,j<0+1->stepOk fs j=true):=fun j hj=>by
    rcases Nat.lt_or_ge j 0 with h | h
    · exact hdone.out j h
    obtain rfl:j=0:=om_;exact HS.out
   clear hH;go_wp2;go_roundw
   case rel=>exact ⟨0+1,om_,by go_num,hB1,p0,hz1,hd'⟩
   case measure=>simp [intOf];omega
 obtain ⟨q,hq⟩:∃ q,q+1=k:=⟨k - 1,om_⟩;have g2:=(hb.cell (p:=⟨b,off+q*2,none⟩) hbw).trans (hcell q om_).1;have HS:Hid (stepOk fs k=(fileOk (fs.getD k f2z)&&Op.bytesLess (fs.getD q f2z).nm.toList (fs.getD k f2z).nm.toList)):=by
  have e1:decide (k=0)=false:=decide_eq_false om_;have e2:k - 1=q:=om_;unfold stepOk;rw [e1,e2];rfl
 have hm0:(0:Int)<(k:Int):=om_;have hm1:decide ((0:Int)<(k:Int))=true:=decide_eq_true hm0;generalize fs.getD k f2z=x at*;generalize fs.getD q f2z=y at*;have hwr:IntKind.i64.wrap ((k:Int) - 1)=(q:Int):=by rw [show (k:Int) - 1=(q:Int) by omega];exact wrap_nat q om_
 have hql:(q:Int)<(fs.length:Int):=om_;clear hq;clear hcell hb;cases hx:fileOk x
 · cases hy:Op.bytesLess y.nm.toList x.nm.toList
   · go_wp2_with fail
     refine wp_region_held_drew (S:=(fun u=>u.cell? ⟨w.heap.size,0,none⟩=some (.slice (some ⟨b,off,none⟩) fs.length cap)/\u.cell? ⟨b,off+k*2,none⟩=some (.string x.nm)/\u.cell? ⟨b,off+k*2+1,none⟩=some (.string x.tx)/\u.cell? ⟨b,off+q*2,none⟩=some (.string y.nm))) kr_ ?_ fun hH=>?_
     · ((try dsimp only);go_keep)
     refine tq 0 hH ?_;refine tq 1 hH ?_
     try simp only [qq]
     refine tq 2 hH ?_;refine tq 3 hH ?_
     try simp only [qq]
     refine tq 4 hH ?_
     try simp only [qq]
     refine rq 5 fun K hK=>?_;go_simp;refine (c100v hx _ hsx.out).mono ?_;rintro e w1 ⟨rfl,hb1⟩;have HB1:Hid (Below wr.heap.size wr w1):=((Below.refl _ _).drew).trans hb1;have p0:=(HB1.out.cell (p:=⟨w.heap.size,0,none⟩) (by show w.heap.size<wr.heap.size;omega)).trans t0;have p1:=(HB1.out.cell (p:=⟨b,off+k*2,none⟩) hbr).trans g0;have p2:=(HB1.out.cell (p:=⟨b,off+k*2+1,none⟩) hbr).trans g1;have p3:=(HB1.out.cell (p:=⟨b,off+q*2,none⟩) hbr).trans g2
     go_wp2_with fail
     clear hH;refine hK.out _ _ ?_ fun hH=>?_
     · ((try dsimp only);go_keep)
     clear hK K;refine tq 6 hH ?_;refine tq 7 hH ?_
     try simp only [qq]
     refine uq 8 hH ?_;refine uq 9 hH ?_
     try simp only [qq]
     refine uq 10 hH ?_;refine uq 11 hH ?_
     try simp only [qq]
     refine uq 12 hH ?_;refine uq 13 hH ?_
     try simp only [qq]
     refine uq 14 hH ?_;refine uq 15 hH ?_
     try simp only [qq]
     refine uq 16 hH ?_;refine uq 17 hH ?_
     try simp only [qq]
     refine uq 18 hH ?_;refine uq 19 hH ?_
     try simp only [qq]
     refine uq 20 hH ?_;refine uq 21 hH ?_
     try simp only [qq]
     refine uq 22 hH ?_;refine uq 23 hH ?_
     try simp only [qq]
     refine uq 24 hH ?_;refine uq 25 hH ?_
     try simp only [qq]
     refine tq 26 hH ?_
     try simp only [qq]
     refine wpAnyH_done kr_ ?_ _;have hB1:Below w.heap.size w w1:=bT HB.out HB1.out;rw [hx,hy] at HS;clear hH;go_wp2;go_ret;exact ⟨⟨false,rfl,by simp only [Bool.false_eq_true,false_iff];intro h;have:=h.2 _ hlt;rw [HS.out] at this;cases this⟩,hB1⟩
   go_wp2_with fail
   refine wp_region_held_drew (S:=(fun u=>u.cell? ⟨w.heap.size,0,none⟩=some (.slice (some ⟨b,off,none⟩) fs.length cap)/\u.cell? ⟨b,off+k*2,none⟩=some (.string x.nm)/\u.cell? ⟨b,off+k*2+1,none⟩=some (.string x.tx)/\u.cell? ⟨b,off+q*2,none⟩=some (.string y.nm))) kr_ ?_ fun hH=>?_
   · ((try dsimp only);go_keep)
   refine tq 0 hH ?_;refine tq 1 hH ?_
   try simp only [qq]
   refine tq 2 hH ?_;refine tq 3 hH ?_
   try simp only [qq]
   refine tq 4 hH ?_
   try simp only [qq]
   refine rq 5 fun K hK=>?_;go_simp;refine (c100v hx _ hsx.out).mono ?_;rintro e w1 ⟨rfl,hb1⟩;have HB1:Hid (Below wr.heap.size wr w1):=((Below.refl _ _).drew).trans hb1;have p0:=(HB1.out.cell (p:=⟨w.heap.size,0,none⟩) (by show w.heap.size<wr.heap.size;omega)).trans t0;have p1:=(HB1.out.cell (p:=⟨b,off+k*2,none⟩) hbr).trans g0;have p2:=(HB1.out.cell (p:=⟨b,off+k*2+1,none⟩) hbr).trans g1;have p3:=(HB1.out.cell (p:=⟨b,off+q*2,none⟩) hbr).trans g2
   go_wp2_with fail
   clear hH;refine hK.out _ _ ?_ fun hH=>?_
   · ((try dsimp only);go_keep)
   clear hK K;refine tq 6 hH ?_;refine tq 7 hH ?_
   try simp only [qq]
   refine uq 8 hH ?_;refine uq 9 hH ?_
   try simp only [qq]
   refine uq 10 hH ?_;refine uq 11 hH ?_
   try simp only [qq]
   refine uq 12 hH ?_;refine uq 13 hH ?_
   try simp only [qq]
   refine uq 14 hH ?_;refine uq 15 hH ?_
   try simp only [qq]
   refine uq 16 hH ?_;refine uq 17 hH ?_
   try simp only [qq]
   refine uq 18 hH ?_;refine uq 19 hH ?_
   try simp only [qq]
   refine uq 20 hH ?_;refine uq 21 hH ?_
   try simp only [qq]
   refine uq 22 hH ?_;refine uq 23 hH ?_
   try simp only [qq]
   refine uq 24 hH ?_;refine uq 25 hH ?_
   try simp only [qq]
   refine tq 26 hH ?_
   try simp only [qq]
   refine wpAnyH_done kr_ ?_ _;have hB1:Below w.heap.size w w1:=bT HB.out HB1.out;rw [hx,hy] at HS;clear hH;go_wp2;go_ret;exact ⟨⟨false,rfl,by simp only [Bool.false_eq_true,false_iff];intro h;have:=h.2 _ hlt;rw [HS.out] at this;cases this⟩,hB1⟩
 cases hy:Op.bytesLess y.nm.toList x.nm.toList
 · go_wp2_with fail
   refine wp_region_held_drew (S:=(fun u=>u.cell? ⟨w.heap.size,0,none⟩=some (.slice (some ⟨b,off,none⟩) fs.length cap)/\u.cell? ⟨b,off+k*2,none⟩=some (.string x.nm)/\u.cell? ⟨b,off+k*2+1,none⟩=some (.string x.tx)/\u.cell? ⟨b,off+q*2,none⟩=some (.string y.nm))) kr_ ?_ fun hH=>?_
   · ((try dsimp only);go_keep)
   refine tq 0 hH ?_;refine tq 1 hH ?_
   try simp only [qq]
   refine tq 2 hH ?_;refine tq 3 hH ?_
   try simp only [qq]
   refine tq 4 hH ?_
   try simp only [qq]
   refine rq 5 fun K hK=>?_;go_simp;refine (c100v hx _ hsx.out).mono ?_;rintro e w1 ⟨rfl,hb1⟩;have HB1:Hid (Below wr.heap.size wr w1):=((Below.refl _ _).drew).trans hb1;have p0:=(HB1.out.cell (p:=⟨w.heap.size,0,none⟩) (by show w.heap.size<wr.heap.size;omega)).trans t0;have p1:=(HB1.out.cell (p:=⟨b,off+k*2,none⟩) hbr).trans g0;have p2:=(HB1.out.cell (p:=⟨b,off+k*2+1,none⟩) hbr).trans g1;have p3:=(HB1.out.cell (p:=⟨b,off+q*2,none⟩) hbr).trans g2
   go_wp2_with fail
   clear hH;refine hK.out _ _ ?_ fun hH=>?_
   · ((try dsimp only);go_keep)
   clear hK K;refine tq 6 hH ?_;refine tq 7 hH ?_
   try simp only [qq]
   refine tq 8 hH ?_;refine tq 9 hH ?_
   try simp only [qq]
   refine tq 10 hH ?_;refine tq 11 hH ?_
   try simp only [qq]
   refine tq 12 hH ?_;refine tq 13 hH ?_
   try simp only [qq]
   refine tq 14 hH ?_;refine tq 15 hH ?_
   try simp only [qq]
   refine tq 16 hH ?_;refine tq 17 hH ?_
   try simp only [qq]
   refine tq 18 hH ?_;refine tq 19 hH ?_
   try simp only [qq]
   refine tq 20 hH ?_;refine tq 21 hH ?_
   try simp only [qq]
   refine tq 22 hH ?_;refine tq 23 hH ?_
   try simp only [qq]
   refine tq 24 hH ?_;refine tq 25 hH ?_
   try simp only [qq]
   refine tq 26 hH ?_
   try simp only [qq]
   refine wpAnyH_done kr_ ?_ _;have hB1:Below w.heap.size w w1:=bT HB.out HB1.out;rw [hx,hy] at HS;clear hH;go_wp2;go_ret;exact ⟨⟨false,rfl,by simp only [Bool.false_eq_true,false_iff];intro h;have:=h.2 _ hlt;rw [HS.out] at this;cases this⟩,hB1⟩
 go_wp2_with fail
 refine wp_region_held_drew (S:=(fun u=>u.cell? ⟨w.heap.size,0,none⟩=some (.slice (some ⟨b,off,none⟩) fs.length cap)/\u.cell? ⟨b,off+k*2,none⟩=some (.string x.nm)/\u.cell? ⟨b,off+k*2+1,none⟩=some (.string x.tx)/\u.cell? ⟨b,off+q*2,none⟩=some (.string y.nm))) kr_ ?_ fun hH=>?_
 · ((try dsimp only);go_keep)
 refine tq 0 hH ?_;refine tq 1 hH ?_
 try simp only [qq]
 refine tq 2 hH ?_;refine tq 3 hH ?_
 try simp only [qq]
 refine tq 4 hH ?_
 try simp only [qq]
 refine rq 5 fun K hK=>?_;go_simp;refine (c100v hx _ hsx.out).mono ?_;rintro e w1 ⟨rfl,hb1⟩;have HB1:Hid (Below wr.heap.size wr w1):=((Below.refl _ _).drew).trans hb1;have p0:=(HB1.out.cell (p:=⟨w.heap.size,0,none⟩) (by show w.heap.size<wr.heap.size;omega)).trans t0;have p1:=(HB1.out.cell (p:=⟨b,off+k*2,none⟩) hbr).trans g0;have p2:=(HB1.out.cell (p:=⟨b,off+k*2+1,none⟩) hbr).trans g1;have p3:=(HB1.out.cell (p:=⟨b,off+q*2,none⟩) hbr).trans g2
 go_wp2_with fail
 clear hH;refine hK.out _ _ ?_ fun hH=>?_
 · ((try dsimp only);go_keep)
 clear hK K;refine tq 6 hH ?_;refine tq 7 hH ?_
 try simp only [qq]
 refine tq 8 hH ?_;refine tq 9 hH ?_
 try simp only [qq]
 refine tq 10 hH ?_;refine tq 11 hH ?_
 try simp only [qq]
 refine tq 12 hH ?_;refine tq 13 hH ?_
 try simp only [qq]
 refine tq 14 hH ?_;refine tq 15 hH ?_
 try simp only [qq]
 refine tq 16 hH ?_;refine tq 17 hH ?_
 try simp only [qq]
 refine tq 18 hH ?_;refine tq 19 hH ?_
 try simp only [qq]
 refine tq 20 hH ?_;refine tq 21 hH ?_
 try simp only [qq]
 refine tq 22 hH ?_;refine tq 23 hH ?_
 try simp only [qq]
 refine tq 24 hH ?_;refine tq 25 hH ?_
 try simp only [qq]
 refine tq 26 hH ?_
 try simp only [qq]
 refine wpAnyH_done kr_ ?_ _;have hB1:Below w.heap.size w w1:=bT HB.out HB1.out;have hz1:w.heap.size+1<=w1.heap.size:=Nat.le_trans hz HB1.out.size;rw [hx,hy] at HS;have hd':Hid (∀ j,j<k+1->stepOk fs j=true):=fun j hj=>by
  rcases Nat.lt_or_ge j k with h | h
  · exact hdone.out j h
  obtain rfl:j=k:=om_;exact HS.out
 clear hH;go_wp2;go_roundw
 case rel=>exact ⟨k+1,om_,by go_num,hB1,p0,hz1,hd'⟩
 case measure=>simp [intOf];omega
structure But (b:Nat) (w w':World):Prop where
 os:w'.os=w.os
 tape:w'.tape=w.tape
 output:w'.output=w.output
 size:w.heap.size<=w'.heap.size
 block:∀ k,k<w.heap.size->k≠b->w'.heap[k]?=w.heap[k]?
theorem But.refl (b:Nat) (w:World):But b w w:=⟨rfl,rfl,rfl,Nat.le_refl _,fun _ _ _=>rfl⟩
theorem But.of_below {b:Nat} {w w':World} (h:Below w.heap.size w w'):But b w w':=⟨h.os,h.tape,h.output,h.size,fun k hk _=>h.block k hk⟩
theorem But.below {b B:Nat} {w w':World} (h:But b w w') (hB:B<=b) (hz:B<=w.heap.size):Below B w w':=⟨h.os,h.tape,h.output,h.size,fun k hk=>h.block k om_ om_⟩
theorem But.cell {b:Nat} {w w':World} (h:But b w w') {p:Addr} (hp:p.block<w.heap.size) (hne:p.block≠b):w'.cell? p=w.cell? p:=by
 unfold World.cell?;rw [h.block p.block hp hne]
theorem cmp_neg:∀ (a b:List UInt8),Lib.compareBytes a b<0↔Op.bytesLess a b=true
 | [],[]=>by simp [Lib.compareBytes,Op.bytesLess]
 | [],_::_=>by simp [Lib.compareBytes,Op.bytesLess]
 | _::_,[]=>by simp [Lib.compareBytes,Op.bytesLess]
 | x::a,y::b=>by
  have ih:=cmp_neg a b;simp only [Lib.compareBytes,Op.bytesLess];by_cases h1:x<y
  · simp [h1]
  by_cases h2:y<x
  · have h3:¬ x=y:=fun e=>by subst e;exact UInt8.lt_irrefl x h2
    simp [h1,h2,h3]
  have h3:x=y:=UInt8.le_antisymm (UInt8.not_lt.1 h2) (UInt8.not_lt.1 h1);subst h3;simp [h1,ih]
theorem cmp_zero:∀ (a b:List UInt8),Lib.compareBytes a b=0↔a=b
 | [],[]=>by simp [Lib.compareBytes]
 | [],_::_=>by simp [Lib.compareBytes]
 | _::_,[]=>by simp [Lib.compareBytes]
 | x::a,y::b=>by
  have ih:=cmp_zero a b;simp only [Lib.compareBytes];by_cases h1:x<y
  · have h3:¬ x=y:=fun e=>by subst e;exact UInt8.lt_irrefl x h1
    simp [h1,h3]
  by_cases h2:y<x
  · have h3:¬ x=y:=fun e=>by subst e;exact UInt8.lt_irrefl x h2
    simp [h1,h2,h3]
  have h3:x=y:=UInt8.le_antisymm (UInt8.not_lt.1 h2) (UInt8.not_lt.1 h1);subst h3;simp [h1,ih]
def lt (a b:ByteArray):Bool:=Op.bytesLess a.toList b.toList
def cmpB (a b:ByteArray):Int:=Lib.compareBytes a.data.toList b.data.toList
theorem cmpB_neg (a b:ByteArray):cmpB a b<0↔lt a b=true:=by
 unfold cmpB lt;rw [cmp_neg,ByteArray.toList_eq,ByteArray.toList_eq]
theorem cmpB_zero (a b:ByteArray):cmpB a b=0↔a=b:=by
 unfold cmpB;rw [cmp_zero];exact ⟨fun h=>ByteArray.ext (Array.toList_inj.1 h),fun h=>by rw [h]⟩
theorem less_trans:∀ (a b c:List UInt8),Op.bytesLess a b=true->Op.bytesLess b c=true->Op.bytesLess a c=true
 | _,[],_,h,_=>by simp [Op.bytesLess] at h
 | _,_::_,[],_,h=>by simp [Op.bytesLess] at h
 | [],_::_,_::_,_,_=>by simp [Op.bytesLess]
 | x::a,y::b,z::c,h,k=>by
  have ih:=less_trans a b c;simp only [Op.bytesLess,Bool.or_eq_true,Bool.and_eq_true,decide_eq_true_eq,beq_iff_eq] at h k ⊢;rcases h with h | ⟨rfl,h⟩
  · rcases k with k | ⟨rfl,k⟩
    · exact .inl (UInt8.lt_trans h k)
    exact .inl h
  rcases k with k | ⟨rfl,k⟩
  · exact .inl k
  exact .inr ⟨rfl,ih h k⟩
theorem less_irrefl:∀ (a:List UInt8),Op.bytesLess a a=false
 | []=>by simp [Op.bytesLess]
 | x::a=>by simp [Op.bytesLess,less_irrefl a]
theorem lt_trans' {a b c:ByteArray} (h:lt a b=true) (k:lt b c=true):lt a c=true:=less_trans _ _ _ h k
theorem lt_irrefl' (a:ByteArray):lt a a=false:=less_irrefl _
structure Place (fs:List F2) (t:ByteArray) (p:Nat) (f:Bool):Prop where
 le:p<=fs.length
 less:∀ j,j<p->lt (fs.getD j f2z).nm t=true
 more:∀ j,p<=j->j<fs.length->lt (fs.getD j f2z).nm t=false
 here:f=true↔p<fs.length/\(fs.getD p f2z).nm=t
def Asc (fs:List F2):Prop:=∀ i j,i<j->j<fs.length->lt (fs.getD i f2z).nm (fs.getD j f2z).nm=true
theorem asc_of {fs:List F2} (h:treeOk fs):Asc fs:=by
 have step:∀ j,j+1<fs.length->lt (fs.getD j f2z).nm (fs.getD (j+1) f2z).nm=true:=fun j hj=>by
  have:=h.2 (j+1) hj;unfold stepOk at this;simp only [Bool.and_eq_true,Bool.or_eq_true,decide_eq_true_eq] at this;rcases this.2 with h | h
  · omega
  exact h
 intro i j hij
 induction j with
 | zero=>omega
 | succ j ih=>
  intro hj;rcases Nat.lt_or_ge i j with h1 | h1
  · exact lt_trans' (ih h1 om_) (step j hj)
  obtain rfl:i=j:=om_;exact step i hj
theorem c121 (a:Option Addr) (cap:Nat) (fs:List F2) (nm:ByteArray) (w:World) (hl:fs.length<=1048576) (hat:FilesAt w a fs):
 Calls prog 121 #[.agg #[.slice a fs.length cap],.string nm] w fun e w'=>(∃ r:Int,e=.returned (.int .i64 r)/\((r=-1/\∀ i,i<fs.length->(fs.getD i f2z).nm≠nm)\/∃ i:Nat,r=i/\i<fs.length/\(fs.getD i f2z).nm=nm))/\Below w.heap.size w w':=by
 obtain ⟨b,off,hc⟩:=files_some hat;have HC:Hid (fs=[]\/(a=some ⟨b,off,none⟩/\b<w.heap.size/\∀ i,i<fs.length->w.cell? ⟨b,off+i*2,none⟩=some (.string (fs.getD i f2z).nm)/\w.cell? ⟨b,off+i*2+1,none⟩=some (.string (fs.getD i f2z).tx))):=hc;have HB:Below w.heap.size w (w.alloc (.cells #[.slice a fs.length cap] 51)):=bA;clear hc hat;go_enter func121,ntmps121
 go_wp2_with fail
 go_loop [5] (fun i=>∃ k:Nat,k<=fs.length/\i=.int .i64 k/\Hid (∀ j,j<k->(fs.getD j f2z).nm≠nm)) (fun i=>fs.length - (intOf i).toNat)
 case atStart=>exact ⟨0,Nat.zero_le _,rfl,fun j h=>absurd h (Nat.not_lt_zero _)⟩
 obtain ⟨k,hk,rfl,hno⟩:=hrel;by_cases hlt:k<fs.length;rotate_left
 · go_wp2
   go_ret;exact ⟨⟨-1,rfl,.inl ⟨rfl,fun i hi=>hno.out i om_⟩⟩,HB⟩
 rcases HC.out with hss | ⟨ha,hbw,hcell⟩
 · rw [hss] at hlt;exact absurd hlt (Nat.not_lt_zero _)
 subst ha;have g0:=(HB.cell (p:=⟨b,off+k*2,none⟩) hbw).trans (hcell k hlt).1;have HX:Hid (∃ x,x=fs.getD k f2z):=⟨_,rfl⟩;obtain ⟨x,hx⟩:=HX.out;rw [<- hx] at g0;have HXE:Hid (x=fs.getD k f2z):=hx;clear hcell hx HX;cases hq:(x.nm.toList==nm.toList)
 · have hno':Hid (∀ j,j<k+1->(fs.getD j f2z).nm≠nm):=fun j hj=>by
    rcases Nat.lt_or_ge j k with h | h
    · exact hno.out j h
    obtain rfl:j=k:=om_;rw [<- HXE.out];intro e;rw [e] at hq;simp at hq
   go_wp2
   go_round
   case rel=>exact ⟨k+1,om_,by go_num,hno'⟩
   case measure=>simp [intOf];omega
 have he:x.nm=nm:=by
  have:=beq_iff_eq.1 hq;rw [ByteArray.toList_eq,ByteArray.toList_eq] at this;exact ByteArray.ext (Array.toList_inj.1 this)
 have HR:Hid (∃ i:Nat,(k:Int)=i/\i<fs.length/\(fs.getD i f2z).nm=nm):=⟨k,rfl,hlt,by rw [<- HXE.out];exact he⟩;clear he;go_wp2;go_ret;exact ⟨⟨_,rfl,.inr HR.out⟩,HB⟩
end Go.Proofs.YthjhakdpikdoeaaGreatDoor.G.T
