import Derived.WalkKit
import Derived.Test.YtdpoaadafcaffaaGreatDoorProg
import Derived.Deep.RegionHeld3
import Derived.WalkSpells
import Derived.WalkLawsBesides
import Derived.Laws.BytesArg
import Derived.Deep.RegionWith
import Derived.Deep.QuietTactic
import Derived.BigQuiet
import Derived.Laws.Cover1
import Derived.Lib.Bytealg
import GoSem.Claim
import GoSem.ClaimJoined
import Derived.JoinedTies
import Derived.KernelRfl
import Derived.RowKit
import Derived.Laws.Externs
import Derived.Laws.BitsAllLaws
import Derived.Deep.RegionLaw
import Derived.Shelf.Strings.Split
import Derived.Shelf.Strings.Cut
import Derived.Shelf.Small.Strs
import Derived.Lib.IndexBytes
import Derived.Lib.IndexLaws
import Derived.Lib.Split
import Derived.Lib.CountLaws
import Derived.Outline
import Derived.Laws.Rows
import Derived.Laws.IdiomCopy
import Derived.Shelf.Strings.Builder1
import Derived.Shelf.Strconv.Itoa3
import Derived.LaidEql
import Derived.Stop.Asserts
import Derived.RowKitTokens
import Derived.Laws.OwnMore
set_option maxHeartbeats 8000000
set_option maxRecDepth 100000
namespace Go.Proofs
theorem Q0 {p:Prop} (h:p):Go.RowKit.Hid p:=h
theorem bA {w:World} {o:Obj}:Go.RowKit.Below w.heap.size w (w.alloc o):=(Go.RowKit.Below.refl _ _).alloc (Nat.le_refl _) _
theorem bT {w u v:World} (h:Go.RowKit.Below w.heap.size w u) (k:Go.RowKit.Below u.heap.size u v):Go.RowKit.Below w.heap.size w v:=h.trans (k.mono h.size)
theorem O0 {p:Prop} (h:p:=by omega):p:=h
theorem X3 {p:Prop} (h:p:=by simp;omega):p:=h
theorem U0 {p:Prop} (h:p:=by simp):p:=h
theorem J3 {p:Prop} (h:p:=by decide):p:=h
theorem I1 {p:Prop} (h:p:=by kernel_rfl):p:=h
theorem Q8 {n:Nat}:n<=n:=Nat.le_refl n
end Go.Proofs
namespace Go.Proofs.YtdpoaadafcaffaaGreatDoor
variable {α:Type} {P:Program} {ops:Array Oper} {md:Region.Mode} {fuel i:Nat} {listed:Array Bool} {a:Act} {w:World} {o oi:Oper} {v:Value} {d:Option Nat} {op:Op} {ty:TypeId} {p:String} {af:Array Edge}
theorem qq:(∀ (a:Act) (d:Nat) (v:Value),a.put (some d) v={ a with tmps:=a.tmps.setIfInBounds d v })/\(∀ (a:Act) (v:Value),a.put none v=a)/\(∀ {α:Type} (l:List α) (i:Nat) (a:α),l.toArray.setIfInBounds i a=(l.set i a).toArray)/\(∀ {α:Type} (x:α) (l:List α) (a:α),(x::l).set 0 a=a::l)/\∀ {α:Type} (x:α) (l:List α) (i:Nat) (a:α),(x::l).set (i+1) a=x::l.set i a:=⟨fun _ _ _=>rfl,fun _ _=>rfl,fun _ _ _=>List.setIfInBounds_toArray ..,fun _ _ _=>rfl,fun _ _ _ _=>rfl⟩
theorem rd {Q:Exit->Act->World->Prop} {S:World->Prop} (ho:ops[i]?=some o) (hr:Region.ready md ops listed=[i]) (h:∀ K':Act->World->Prop,Shut (∀ a w,S w->(S w->wpAnyH P md ops Q S fuel (listed.setIfInBounds i true) a w)->K' a w)->if Region.wanted o (yielded ops a.tmps)=true then Oper.wp P o a w K' Q else K' (a.put o.dst undef) w):wpAnyH P md ops Q S (fuel+1) listed a w:=wpAnyH_ready hr U0 (AllReadyH.cons ho h AllReadyH.nil)
theorem tk {Q:Exit->Act->World->Prop} {S:World->Prop} (hi:ops[i]?=some oi) (hb:(Region.noSelect ops&&Region.free md ops listed i&&(Region.ready md ops listed).contains i)=true) (hw:Region.wanted oi (yielded ops a.tmps)=true) (hv:∀ u,S u->(execOp a.eval oi).run P u=.ok (.value v) u) (hS:S w) (h:wpAnyH P md ops Q S fuel (listed.setIfInBounds i true) (a.put oi.dst v) w) (hQ:∀ c a w,Q (.panic c) (a.put oi.dst v) w->Q (.panic c) a w:=by exact fun _ _ _ h=>h):wpAnyH P md ops Q S (fuel+1) listed a w:=by
  simp only [Bool.and_eq_true] at hb;exact wpAnyH_take hi hb.1.1 hb.1.2 hb.2 hQ (.inl ⟨hw,hv⟩) hS h
theorem tu {Q:Exit->Act->World->Prop} {S:World->Prop} (hi:ops[i]?=some oi) (hb:(Region.noSelect ops&&Region.free md ops listed i&&(Region.ready md ops listed).contains i)=true) (hw:Region.wanted oi (yielded ops a.tmps)=false) (hS:S w) (h:wpAnyH P md ops Q S fuel (listed.setIfInBounds i true) (a.put oi.dst undef) w) (hQ:∀ c a w,Q (.panic c) (a.put oi.dst undef) w->Q (.panic c) a w:=by exact fun _ _ _ h=>h):wpAnyH P md ops Q S (fuel+1) listed a w:=by
  simp only [Bool.and_eq_true] at hb;exact wpAnyH_take hi hb.1.1 hb.1.2 hb.2 hQ (.inr ⟨hw,rfl⟩) hS h
theorem tq {Q:Exit->Act->World->Prop} {S:World->Prop} {g:Option (Nat×Bool)} (i:Nat) (hS:S w) (h:wpAnyH P md ops Q S fuel (listed.setIfInBounds i true) (a.put d v) w) (hi:ops[i]?=some ⟨d,op,ty,p,af,g⟩:=by exact rfl) (hb:(Region.noSelect ops&&Region.free md ops listed i&&(Region.ready md ops listed).contains i)=true:=by kernel_rfl) (hw:Region.wanted ⟨d,op,ty,p,af,g⟩ (yielded ops a.tmps)=true:=by exact rfl) (hv:∀ u,S u->(execOp a.eval ⟨d,op,ty,p,af,g⟩).run P u=.ok (.value v) u:=by intro wq hSw;(try dsimp only at hSw);go_simp;try with_reducible rfl) (hQ:∀ c a w,Q (.panic c) (a.put d v) w->Q (.panic c) a w:=by first | exact fun _ _ _ h=>h | exact fun _ _ _ h=>hQ _ _ _ _ _ h):wpAnyH P md ops Q S (fuel+1) listed a w:=tk hi hb hw hv hS h hQ
theorem uq {Q:Exit->Act->World->Prop} {S:World->Prop} {g:Option (Nat×Bool)} (i:Nat) (hS:S w) (h:wpAnyH P md ops Q S fuel (listed.setIfInBounds i true) (a.put d undef) w) (hi:ops[i]?=some ⟨d,op,ty,p,af,g⟩:=by exact rfl) (hb:(Region.noSelect ops&&Region.free md ops listed i&&(Region.ready md ops listed).contains i)=true:=by kernel_rfl) (hw:Region.wanted ⟨d,op,ty,p,af,g⟩ (yielded ops a.tmps)=false:=by exact rfl) (hQ:∀ c a w,Q (.panic c) (a.put d undef) w->Q (.panic c) a w:=by first | exact fun _ _ _ h=>h | exact fun _ _ _ h=>hQ _ _ _ _ _ h):wpAnyH P md ops Q S (fuel+1) listed a w:=tu hi hb hw hS h hQ
theorem rq {Q:Exit->Act->World->Prop} {S:World->Prop} {g:Option (Nat×Bool)} (i:Nat) (h:∀ K':Act->World->Prop,Shut (∀ a w,S w->(S w->wpAnyH P md ops Q S fuel (listed.setIfInBounds i true) a w)->K' a w)->if Region.wanted ⟨d,op,ty,p,af,g⟩ (yielded ops a.tmps)=true then Oper.wp P ⟨d,op,ty,p,af,g⟩ a w K' Q else K' (a.put d undef) w) (ho:ops[i]?=some ⟨d,op,ty,p,af,g⟩:=by exact rfl) (hr:Region.ready md ops listed=[i]:=by kernel_rfl):wpAnyH P md ops Q S (fuel+1) listed a w:=rd ho hr h
end Go.Proofs.YtdpoaadafcaffaaGreatDoor
namespace Go.Proofs.YtdpoaadafcaffaaGreatDoor
open Proofs.Tryz
open Go.RowKit
variable {a l r:List UInt8} {b s:ByteArray} {B g k n size:Nat} {w:World} {c y:Int} {ls ss:List (List UInt8)} {p:Addr} {e:TypeId} {xs:List Value}
def Jd (c:UInt8):Bool:=decide (33<=(c.toNat:Int)/\(c.toNat:Int)<=126)
def Y1 (l:List UInt8):Bool:=decide (1<=l.length/\l.length<=20)&&l.all Jd
theorem Ag (c:UInt8):Jd c=true↔33<=(c.toNat:Int)/\(c.toNat:Int)<=126:=by simp [Jd]
theorem o9 (s:ByteArray) (k:Nat) (h:k<s.size):s.data.toList.take (k+1)=s.data.toList.take k++[s[k]]:=by
 rw [List.take_succ_eq_append_getElem (by simpa using h)];rfl
theorem U4 {a b:Bool} (h:a=b):Ending.returned (.bool a)=.returned (.bool b):=by rw [h]
theorem fC (n l h:Int) (w:World):
 Calls prog 45 #[.int .i64 n,.int .i64 l,.int .i64 h] w fun e w'=>e=.returned (.bool (decide (l<=n/\n<=h)))/\w'=w:=by
 by_cases h1:l<=n <;> by_cases h2:n<=h
 all_goals
  go_enter func45,ntmps45;go_wp2
  all_goals go_ret
  all_goals exact ⟨by simp [*],rfl⟩
theorem W_ (p:UInt8->Bool) (s:ByteArray) (k:Nat) (h:k<s.size) (ha:(s.data.toList.take k).all p=true) (hp:p s[k]=true):(s.data.toList.take (k+1)).all p=true:=by
 rw [o9 s k h,List.all_append,ha];simpa using hp
theorem jb (p:UInt8->Bool) (s:ByteArray) (k:Nat) (h:k<s.size) (hp:p s[k]=false):s.data.toList.all p=false:=by
 rw [List.all_eq_false];exact ⟨s[k],by simp [ByteArray.getElem_eq_getElem_data],by simp [hp]⟩
theorem Z_ (p:UInt8->Bool) (s:ByteArray) (k:Nat) (h:s.size<=k) (ha:(s.data.toList.take k).all p=true):s.data.toList.all p=true:=by
 rwa [List.take_of_length_le (by simpa using h)] at ha
theorem Jl (s:ByteArray) (h:¬ (1<=s.size/\s.size<=20)):Y1 s.data.toList=false:=by
 unfold Y1;have:(decide (1<=s.data.toList.length/\s.data.toList.length<=20))=false:=by
  simp only [decide_eq_false_iff_not];simpa using h
 rw [this];rfl
theorem Jn (s:ByteArray) (h:1<=s.size/\s.size<=20):Y1 s.data.toList=s.data.toList.all Jd:=by
 unfold Y1;have:(decide (1<=s.data.toList.length/\s.data.toList.length<=20))=true:=by
  simp only [decide_eq_true_eq];simpa using h
 rw [this];rfl
theorem c17 (s:ByteArray) (w:World) (hs:s.size<=1048700):
 Calls prog 17 #[.string s] w fun e w'=>e=.returned (.bool (Y1 s.data.toList))/\w'=w:=by
 by_cases h:1<=s.size/\s.size<=20;rotate_left
 · have hN:=Q0 (Jl s h)
   by_cases h1:1<=s.size
   all_goals
    go_enter func17,ntmps17;go_wp2
    all_goals go_ret
    all_goals exact ⟨U4 (by rw [hN.out]),rfl⟩
 have hN:=Q0 (Jn s h);obtain ⟨h1,h2⟩:=h;go_enter func17,ntmps17;go_wp2;go_loop [14] (fun i=>∃ k:Nat,k<=s.size/\i=.int .i64 k/\Hid ((s.data.toList.take k).all Jd=true)) (fun i=>s.size - (intOf i).toNat)
 case atStart=>exact ⟨0,Nat.zero_le _,rfl,rfl⟩
 obtain ⟨k,hk,rfl,ha⟩:=hrel;by_cases hlt:k<s.size;rotate_left
 · go_wp2
   go_ret;exact ⟨U4 (by rw [hN.out,Z_ _ s k O0 ha.out]),rfl⟩
 by_cases hg:Jd s[k]=true
 · have hg':=(Ag _).1 hg
   have hn:=Hid.out ha;have ha':=Q0 (W_ _ s k hlt ha.out hg);clear hg hn;go_wp2
   go_round
   case rel=>exact ⟨k+1,O0,by go_num,ha'⟩
   case measure=>simp [intOf];omega
 have hf:=Q0 (jb _ s k hlt (by simpa using hg));have hg':(s[k].toNat:Int)<33\/126<(s[k].toNat:Int):=by
  rcases Int.lt_or_le (s[k].toNat:Int) 33 with h | h
  · exact .inl h
  rcases Int.lt_or_le 126 (s[k].toNat:Int) with h' | h'
  · exact .inr h'
  exact absurd ((Ag _).2 ⟨h,h'⟩) hg
 clear hg;rcases hg' with hg | hg
 all_goals
  go_wp2
  all_goals go_ret
  all_goals exact ⟨U4 (by rw [hN.out,hf.out]),rfl⟩
theorem Um (s:ByteArray) (w:World) (hs:s.size<=1048700):
 Calls prog 22 #[.string s] w fun e w'=>e=.returned (.bool (Y1 s.data.toList))/\w'=w:=by
 by_cases h:1<=s.size/\s.size<=20;rotate_left
 · have hN:=Q0 (Jl s h)
   have hd:decide ((1:Int)<=(s.size:Int)/\(s.size:Int)<=20)=false:=by simp only [decide_eq_false_iff_not];omega
   go_enter func22,ntmps22
   go_wp2_with fail
   refine (fC _ _ _ _).mono ?_;rintro e w' ⟨rfl,rfl⟩;rw [hd];go_wp2;go_ret;exact ⟨U4 (by rw [hN.out]),rfl⟩
 have hN:=Q0 (Jn s h);have hd:decide ((1:Int)<=(s.size:Int)/\(s.size:Int)<=20)=true:=X3;go_enter func22,ntmps22
 go_wp2_with fail
 refine (fC _ _ _ _).mono ?_;rintro e w' ⟨rfl,rfl⟩;rw [hd];go_wp2;go_loop [3] (fun i=>∃ k:Nat,k<=s.size/\i=.int .i64 k/\Hid ((s.data.toList.take k).all Jd=true)) (fun i=>s.size - (intOf i).toNat)
 case atStart=>exact ⟨0,Nat.zero_le _,rfl,rfl⟩
 obtain ⟨k,hk,rfl,ha⟩:=hrel;by_cases hlt:k<s.size;rotate_left
 · go_wp2
   go_ret;exact ⟨U4 (by rw [hN.out,Z_ _ s k O0 ha.out]),rfl⟩
 by_cases hg:Jd s[k]=true
 · have hg':=(Ag _).1 hg
   have ha':=Q0 (W_ _ s k hlt ha.out hg);clear hg;go_wp2
   go_round
   case rel=>exact ⟨k+1,O0,by go_num,ha'⟩
   case measure=>simp [intOf];omega
 have hf:=Q0 (jb _ s k hlt (by simpa using hg));have hg':(s[k].toNat:Int)<33\/126<(s[k].toNat:Int):=by
  rcases Int.lt_or_le (s[k].toNat:Int) 33 with h | h
  · exact .inl h
  rcases Int.lt_or_le 126 (s[k].toNat:Int) with h' | h'
  · exact .inr h'
  exact absurd ((Ag _).2 ⟨h,h'⟩) hg
 clear hg;rcases hg' with hg | hg
 all_goals
  go_wp2
  all_goals go_ret
  all_goals exact ⟨U4 (by rw [hN.out,hf.out]),rfl⟩
theorem Pb {i j:Nat} (h:i≠j):(⟨B,i,none⟩:Addr)≠⟨B,j,none⟩:=by intro e;injection e with _ e;exact h e
theorem jq (u:World) (B j:Nat) (v0 v1 x0 x1:Value) (h0:u.cell? ⟨B,j,none⟩=some x0) (h1:u.cell? ⟨B,j+1,none⟩=some x1):
 ((u.setCell ⟨B,j,none⟩ v0).setCell ⟨B,j+1,none⟩ v1).cell? ⟨B,j,none⟩=some v0/\((u.setCell ⟨B,j,none⟩ v0).setCell ⟨B,j+1,none⟩ v1).cell? ⟨B,j+1,none⟩=some v1:=by
 have a1:(u.setCell ⟨B,j,none⟩ v0).cell? ⟨B,j+1,none⟩=some x1:=by rw [World.cell?_setCell_other _ _ _ _ (Pb O0)];exact h1
 refine ⟨?_,World.cell?_setCell_same _ _ _ a1⟩;rw [World.cell?_setCell_other _ _ _ _ (Pb O0)];exact World.cell?_setCell_same _ _ _ h0
theorem ni (q:Nat) (h:q<1048577):IntKind.i64.wrap (q:Int)=(q:Int):=by
 have h1:(q:Int) % 2 ^ 64=q:=O0;simp only [IntKind.wrap,IntKind.bits,IntKind.signed,h1];rw [if_neg X3]
def E9 (c:UInt8):Bool:=decide (48<=(c.toNat:Int)/\(c.toNat:Int)<=57)
def OE (n:Int) (c:UInt8):Int:=n*10+((c.toNat:Int) - 48)
def val (l:List UInt8):Int:=l.foldl OE 0
theorem G_ (l:List UInt8) (c:UInt8):val (l++[c])=val l*10+((c.toNat:Int) - 48):=by simp [val,OE]
theorem J_ (c:UInt8):E9 c=true↔48<=(c.toNat:Int)/\(c.toNat:Int)<=57:=by simp [E9]
theorem Eh {P:List UInt8->Prop} (h0:P []) (h1:∀ l c,P l->P (l++[c])) (l:List UInt8):P l:=by
 have h:∀ r:List UInt8,P r.reverse:=fun r=>by
  induction r with
  | nil=>exact h0
  | cons c r ih=>rw [List.reverse_cons];exact h1 _ _ ih
 have:=h l.reverse
 rwa [List.reverse_reverse] at this
theorem Vg (l:List UInt8):l.all E9=true->0<=val l:=by
 refine Eh (P:=fun l=>l.all E9=true->0<=val l) (by simp [val]) (fun l c ih h=>?_) l;rw [List.all_append] at h;simp only [List.all_cons,List.all_nil,Bool.and_true,Bool.and_eq_true] at h;have:=ih h.1;have hc:=(J_ c).1 h.2;rw [G_];omega
def Za (l:List UInt8):Bool:=!l.isEmpty&&!(l.headD 0==48&&!(l==[48]))
def Q7 (l:List UInt8):Bool:=Za l&&l.all E9&&decide (val l<=40)
def Wm:Nat->Int->List UInt8
 | 0,_=>[]
 | f+1,n=>if n<10 then [UInt8.ofNat (48+n).toNat] else Wm f (n / 10)++[UInt8.ofNat (48+n % 10).toNat]
def dec (n:Int):List UInt8:=Wm (n.toNat+1) n
theorem Uz (f g:Nat) (n:Int) (h0:0<=n) (hf:n.toNat<f) (hg:n.toNat<g):Wm f n=Wm g n:=by
 induction f generalizing g n with
 | zero=>omega
 | succ f ih=>
  cases g with
  | zero=>omega
  | succ g=>
   simp only [Wm];by_cases h:n<10
   · rw [if_pos h,if_pos h]
   rw [if_neg h,if_neg h,ih g (n / 10) O0 O0 O0]
theorem dec_lt (n:Int) (h:n<10):dec n=[UInt8.ofNat (48+n).toNat]:=by simp [dec,Wm,h]
theorem Ui (n:Int) (h:10<=n):dec n=dec (n / 10)++[UInt8.ofNat (48+n % 10).toNat]:=by
 unfold dec;rw [Wm,if_neg O0,Uz n.toNat ((n / 10).toNat+1) (n / 10) O0 O0 O0]
theorem aB (n:Int):dec n≠[]:=by
 by_cases h:n<10
 · rw [dec_lt n h];simp
 rw [Ui n O0];simp
theorem Ay (c:UInt8) (h:E9 c=true):UInt8.ofNat (48+((c.toNat:Int) - 48)).toNat=c:=by
 have:=(J_ c).1 h;rw [show (48+((c.toNat:Int) - 48)).toNat=c.toNat by omega];exact UInt8.ofNat_toNat
theorem Rp (l:List UInt8):l.all E9=true->Za l=true->dec (val l)=l/\(2<=l.length->10<=val l)/\(l.headD 0≠48->1<=val l):=by
 refine Eh (P:=fun l=>l.all E9=true->Za l=true->dec (val l)=l/\(2<=l.length->10<=val l)/\(l.headD 0≠48->1<=val l)) (by simp [Za]) (fun l c ih h hl=>?_) l;rw [List.all_append] at h;simp only [List.all_cons,List.all_nil,Bool.and_true,Bool.and_eq_true] at h;have hc:=(J_ c).1 h.2;have hd:=Ay c h.2
 cases l with
 | nil=>
  have e:val ([]++[c])=(c.toNat:Int) - 48:=by rw [G_];simp [val]
  rw [e];refine ⟨?_,U0,?_⟩
  · rw [dec_lt _ O0,hd];rfl
  intro h1;simp at h1;have:c.toNat≠48:=fun e=>h1 (by rw [<- UInt8.toNat_inj];exact e);omega
 | cons a r=>
  have ha:a≠48:=by
   intro e;subst e;simp [Za] at hl
  have hl':Za (a::r)=true:=by simp [Za,ha]
  obtain ⟨h1,_,h3⟩:=ih h.1 hl';have h4:=h3 (by simpa using ha);rw [G_];have hdiv:(val (a::r)*10+((c.toNat:Int) - 48)) / 10=val (a::r):=O0;have hmod:(val (a::r)*10+((c.toNat:Int) - 48)) % 10=(c.toNat:Int) - 48:=O0;refine ⟨?_,fun _=>O0,fun _=>O0⟩;rw [Ui _ O0,hdiv,hmod,h1,hd]
theorem Uq (f:Nat) (n:Int) (h0:0<=n) (hf:n.toNat<f):Za (dec n)=true/\(1<=n->(dec n).headD 0≠48):=by
 induction f generalizing n with
 | zero=>omega
 | succ f ih=>
  by_cases h:n<10
  · rw [dec_lt n h]
    obtain rfl | rfl | rfl | rfl | rfl | rfl | rfl | rfl | rfl | rfl:n=0\/n=1\/n=2\/n=3\/n=4\/n=5\/n=6\/n=7\/n=8\/n=9:=O0
    all_goals decide
  obtain ⟨h1,h2⟩:=ih (n / 10) O0 O0;have h3:=h2 O0;rw [Ui n O0];have hne:=aB (n / 10);generalize dec (n / 10)=l at*
  cases l with
  | nil=>exact absurd rfl hne
  | cons a r=>
   have ha:a≠48:=by simpa using h3
   exact ⟨by simp [Za,ha],fun _=>by simpa using ha⟩
theorem xk (l:List UInt8) (h:l.all E9=true) (hl:Za l=true) (aW:val l<=40):l.length<=2:=by
 rcases Nat.lt_or_ge 2 l.length with h2 | h2;rotate_left
 · exact h2
 exfalso;rcases List.eq_nil_or_concat l with e | ⟨r,c,e⟩
 · subst e;simp at h2
 rw [List.concat_eq_append] at e;subst e;rw [List.all_append] at h;simp only [List.all_cons,List.all_nil,Bool.and_true,Bool.and_eq_true] at h;have hr:2<=r.length:=by simp at h2;omega
 cases r with
 | nil=>simp at hr
 | cons a r=>
  have ha:a≠48:=by
   intro e;subst e;simp [Za] at hl
  have:=(Rp (a::r) h.1 (by simp [Za,ha])).2.1 hr;have hc:=(J_ c).1 h.2;rw [G_] at aW;omega
theorem zA (f:Nat) (n:Int):(Wm f n).length<=f:=by
 induction f generalizing n with
 | zero=>simp [Wm]
 | succ f ih=>
  simp only [Wm];by_cases h:n<10
  · rw [if_pos h];simp
  rw [if_neg h];have:=ih (n / 10);simp;omega
theorem Cv (n:Int) (h:0<=n) (h1:n<=100000000):(dec n).length<=100000001:=by
 have:=zA (n.toNat+1) n;unfold dec;omega
structure M3 where
 nm:ByteArray
 tl:ByteArray
 ar:ByteArray
def X6:M3:=⟨⟨#[]⟩,⟨#[]⟩,⟨#[]⟩⟩
def M3.v (x:M3):Value:=.agg #[.string x.nm,.string x.tl,.string x.ar]
def M3.le (x:M3) (B:Nat):Prop:=x.nm.size<=B/\x.tl.size<=B/\x.ar.size<=B
theorem ja (u:World) (B j:Nat) (v0 v1 v2 x0 x1 x2:Value) (h0:u.cell? ⟨B,j,none⟩=some x0) (h1:u.cell? ⟨B,j+1,none⟩=some x1) (h2:u.cell? ⟨B,j+2,none⟩=some x2):
 (((u.setCell ⟨B,j,none⟩ v0).setCell ⟨B,j+1,none⟩ v1).setCell ⟨B,j+2,none⟩ v2).cell? ⟨B,j,none⟩=some v0/\(((u.setCell ⟨B,j,none⟩ v0).setCell ⟨B,j+1,none⟩ v1).setCell ⟨B,j+2,none⟩ v2).cell? ⟨B,j+1,none⟩=some v1/\(((u.setCell ⟨B,j,none⟩ v0).setCell ⟨B,j+1,none⟩ v1).setCell ⟨B,j+2,none⟩ v2).cell? ⟨B,j+2,none⟩=some v2:=by
 have a1:(u.setCell ⟨B,j,none⟩ v0).cell? ⟨B,j+1,none⟩=some x1:=by rw [World.cell?_setCell_other _ _ _ _ (Pb O0)];exact h1
 have a2:((u.setCell ⟨B,j,none⟩ v0).setCell ⟨B,j+1,none⟩ v1).cell? ⟨B,j+2,none⟩=some x2:=by
  rw [World.cell?_setCell_other _ _ _ _ (Pb O0),World.cell?_setCell_other _ _ _ _ (Pb O0)];exact h2
 refine ⟨?_,?_,World.cell?_setCell_same _ _ _ a2⟩
 · rw [World.cell?_setCell_other _ _ _ _ (Pb O0),World.cell?_setCell_other _ _ _ _ (Pb O0)];exact World.cell?_setCell_same _ _ _ h0
 rw [World.cell?_setCell_other _ _ _ _ (Pb O0)];exact World.cell?_setCell_same _ _ _ a1
theorem Hr (u:World) (y:Int):(convert 22 9 (.slice (some ⟨u.heap.size,0,none⟩) 1 1)).run prog (u.alloc (.cells #[.int .u8 y] 5))=.ok (.string (strOfNums [y])) (u.alloc (.cells #[.int .u8 y] 5)):=
 run_convert_bytes_arg _ 22 5 underlying22 underlying5 _ 0 1 1 [y] rfl (fun i hi=>by
  obtain rfl:i=0:=O0;simp) 9 underlying9
theorem fA (u:World) (y:Int):(convert 22 9 (.slice (some ⟨u.heap.size,0,none⟩) 1 1)).run prog (u.alloc (.cells #[.int .u8 y] 5)).drew=.ok (.string (strOfNums [y])) (u.alloc (.cells #[.int .u8 y] 5)).drew:=
 run_convert_bytes_arg _ 22 5 underlying22 underlying5 _ 0 1 1 [y] rfl (fun i hi=>by
  obtain rfl:i=0:=O0;simp) 9 underlying9
theorem Oz {u w1:World} (hb:Below (u.alloc (.cells #[.int .u8 y] 5)).drew.heap.size (u.alloc (.cells #[.int .u8 y] 5)).drew w1):
 (convert 22 9 (.slice (some ⟨u.heap.size,0,none⟩) 1 1)).run prog w1=.ok (.string (strOfNums [y])) w1:=
 run_convert_bytes_arg _ 22 5 underlying22 underlying5 _ 0 1 1 [y] rfl (fun i hi=>by
  obtain rfl:i=0:=O0;rw [hb.cell U0];simp) 9 underlying9
def K3 (l:List UInt8):ByteArray:=⟨l.toArray⟩
theorem Y2 (l:List UInt8):(K3 l).size=l.length:=by simp [K3,ByteArray.size]
def Z9 (x:M3):Bool:=Y1 x.nm.data.toList&&Y1 x.tl.data.toList&&decide ((x.ar.size:Int)<=300)
theorem FJ (x:M3) (w:World) (hs:x.le 1048700):
 Calls prog 101 #[.agg #[.string x.nm,.string x.tl,.string x.ar]] w fun e w'=>e=.returned (.bool (Z9 x))/\Below w.heap.size w w':=by
 have HF:Hid (Z9 x=(Y1 x.nm.data.toList&&Y1 x.tl.data.toList&&decide ((x.ar.size:Int)<=300))):=rfl;obtain ⟨h1,h2,h3⟩:=hs;go_enter func101,ntmps101
 go_wp2_with fail
 refine (Um _ _ h1).mono ?_;rintro e w1 ⟨rfl,rfl⟩;cases hn:Y1 x.nm.data.toList
 · rw [hn] at HF
   go_wp2
   all_goals go_ret
   all_goals exact ⟨U4 (by rw [HF.out];simp),bA⟩
 rw [hn] at HF
 go_wp2_with fail
 refine (Um _ _ h2).mono ?_;rintro e w1 ⟨rfl,rfl⟩;cases hm:Y1 x.tl.data.toList
 all_goals
  rw [hm] at HF;go_wp2
  all_goals go_ret
  all_goals exact ⟨U4 (by rw [HF.out];simp),bA⟩
theorem Dh {x:M3} {v:Bool} (hv:Z9 x=v) (w:World) (hs:x.le 1048700):
 Calls prog 101 #[.agg #[.string x.nm,.string x.tl,.string x.ar]] w fun e w'=>e=.returned (.bool v)/\Below w.heap.size w w':=hv▸FJ x w hs
def cst (b:UInt8) (p:List (List UInt8)×List UInt8) (c:UInt8):List (List UInt8)×List UInt8:=if c=b then (p.1++[p.2],[]) else (p.1,p.2++[c])
def E5 (b:UInt8) (l:List UInt8):List (List UInt8)×List UInt8:=l.foldl (cst b) ([],[])
def Z6 (b:UInt8) (l:List UInt8):List (List UInt8):=(E5 b l).1++[(E5 b l).2]
theorem zk (b:UInt8) (l:List UInt8) (c:UInt8):E5 b (l++[c])=cst b (E5 b l) c:=by simp [E5]
theorem gu (b:UInt8) (l:List UInt8) (p:List (List UInt8)×List UInt8):(l.foldl (cst b) p).1.length<=p.1.length+l.length:=by
 induction l generalizing p with
 | nil=>simp
 | cons c l ih=>
  have:=ih (cst b p c);have h2:(cst b p c).1.length<=p.1.length+1:=by unfold cst;split <;> simp
  simp only [List.foldl_cons,List.length_cons];omega
theorem Wi (b:UInt8) (l:List UInt8):(E5 b l).1.length<=l.length:=by have:=gu b l ([],[]);simpa [E5] using this
def Ei (ss:List (List UInt8)):List Value:=ss.map fun l=>.string (K3 l)
theorem Uc (ss:List (List UInt8)) (l:List UInt8):Ei (ss++[l])=Ei ss++[.string (K3 l)]:=by simp [Ei]
def P6 (w:World) (g:Nat) (ss:List (List UInt8)):Prop:=g<w.heap.size/\∀ i,i<ss.length->w.cell? ⟨g,i,none⟩=some (.string (K3 (ss.getD i [])))
theorem Vb {base cp:Nat} (h:w.ownsRow base 9 1 (.slice (some ⟨g,0,none⟩) k cp) k (Ei ss)) (hl:ss.length=k):P6 w g ss:=by
 refine ⟨(h.lt g rfl).2,fun i hi=>?_⟩;rw [h.cellAt i O0];simp [Ei,hi]
theorem Yv:(prog.info? 9).map (fun i=>(i.zero,i.size,i.bytes))=some (some (.string ⟨#[]⟩),1,16):=I1
theorem P9 (h:s.data.toList=l):s=K3 l:=by
 apply ByteArray.ext;unfold K3;rw [<- h]
def U1 (l:List UInt8):List UInt8:=l.takeWhile (· !=32)
def Z0 (l:List UInt8):List UInt8:=(l.dropWhile (· !=32)).drop 1
theorem Oe (ha:(l.take k).all (· !=32)=true) (_hk:k<=l.length) (he:k=l.length\/l.getD k 0=32):U1 l=l.take k/\Z0 l=l.drop (k+1):=by
 have h:l.takeWhile (· !=32)=l.take k/\l.dropWhile (· !=32)=l.drop k:=by
  rcases Nat.lt_or_ge k l.length with hlt | hge;rotate_left
  · rw [List.take_of_length_le hge] at ha
    rw [List.take_of_length_le hge,List.drop_of_length_le hge];have hall:∀ a∈l,(a !=32)=true:=fun a h=>List.all_eq_true.1 ha a h;have:=List.takeWhile_append_of_pos (l₂:=[]) hall;have h2:=List.dropWhile_append_of_pos (l₂:=[]) hall;simp only [List.append_nil,List.takeWhile_nil,List.dropWhile_nil] at this h2;exact ⟨this,h2⟩
  have hx:l[k]=32:=by
   rcases he with he | he
   · omega
   simpa [hlt] using he
  have hsplit:l=l.take k++l[k]::l.drop (k+1):=by rw [<- List.drop_eq_getElem_cons hlt,List.take_append_drop]
  have hall:∀ a∈l.take k,(a !=32)=true:=fun a h=>List.all_eq_true.1 ha a h;constructor
  · conv=>lhs;rw [hsplit]
    rw [List.takeWhile_append_of_pos hall,hx];simp
  conv=>lhs;rw [hsplit]
  rw [List.dropWhile_append_of_pos hall,hx];rw [List.drop_eq_getElem_cons hlt,hx];simp
 refine ⟨h.1,?_⟩;unfold Z0;rw [h.2,List.drop_drop]
theorem Tk (a b:List UInt8):K3 a++K3 b=K3 (a++b):=by apply ByteArray.ext;simp [K3]
theorem Uk (c:UInt8):(⟨#[c]⟩:ByteArray)=K3 [c]:=rfl
theorem Fe (h:(32:UInt8)∉l):U1 l=l/\Z0 l=[]:=by
 have:=Oe (l:=l) (k:=l.length) (by rw [List.take_length,List.all_eq_true];intro a ha;simp only [bne_iff_ne];intro e;exact h (e▸ha)) Q8 (.inl rfl);rw [List.take_length,List.drop_of_length_le O0] at this;exact this
theorem K5 (h:(32:UInt8)∉a):U1 (a++32::r)=a/\Z0 (a++32::r)=r:=by
 have:=Oe (l:=a++32::r) (k:=a.length) (by rw [List.take_left,List.all_eq_true];intro x ha;simp only [bne_iff_ne];intro e;exact h (e▸ha)) U0 (.inr U0);rw [List.take_left] at this;refine ⟨this.1,this.2.trans ?_⟩;rw [<- List.drop_drop,List.drop_left];rfl
theorem Y8 (h:(32:UInt8)∈l):l=U1 l++32::Z0 l/\(32:UInt8)∉U1 l:=by
 obtain ⟨a,r,rfl,ha⟩:=List.eq_append_cons_of_mem h;obtain ⟨h1,h2⟩:=K5 (r:=r) ha;rw [h1,h2];exact ⟨rfl,ha⟩
theorem Zk (l:List UInt8):(Lib.index l [32]=-1/\(32:UInt8)∉l)\/(∃ i:Nat,Lib.index l [32]=i/\(32:UInt8)∈l/\l.take i=U1 l/\l.drop (i+1)=Z0 l):=by
 rw [Lib.index_one];have hge:=Lib.indexByte_ge l 32;by_cases h:Lib.indexByte l 32=-1
 · refine .inl ⟨h,fun hm=>?_⟩
   obtain ⟨k,hk,e⟩:=List.getElem_of_mem hm;exact Lib.indexByte_none h k (by rw [List.getElem?_eq_getElem hk,e])
 obtain ⟨o,ho⟩:∃ o:Nat,Lib.indexByte l 32=o:=⟨(Lib.indexByte l 32).toNat,O0⟩;obtain ⟨h1,h2⟩:=Lib.indexByte_some ho;have hl:o<l.length:=by
  rcases Nat.lt_or_ge o l.length with h | h
  · exact h
  rw [List.getElem?_eq_none h] at h1;cases h1
 have hm:=List.mem_of_getElem? h1;have:=Oe (l:=l) (k:=o) (by
  rw [List.all_eq_true];intro x hx;simp only [bne_iff_ne];rintro rfl;obtain ⟨k,hk,e⟩:=List.getElem_of_mem hx;rw [List.length_take] at hk;rw [List.getElem_take] at e;exact h2 k O0 (by rw [List.getElem?_eq_getElem O0,e])) O0 (.inr (by simp [List.getD,h1]))
 exact .inr ⟨o,ho,hm,this.1.symm,this.2.symm⟩
theorem zz (l:List UInt8):(Lib.cut l [32]).1=U1 l:=by
 unfold Lib.cut;rcases Zk l with ⟨h,hn⟩ | ⟨i,h,_,h1,_⟩
 · rw [h,if_neg O0,(Fe hn).1]
 rw [h,if_pos O0];exact h1
def D6 (l:List UInt8) (n:Nat):List (List UInt8):=Lib.splitK [32] 0 n l
theorem Jb (l:List UInt8):D6 l 0=[l]:=rfl
theorem j_ (n:Nat) (h:(32:UInt8)∉l):D6 l n=[l]:=by
 cases n with
 | zero=>rfl
 | succ n=>
  unfold D6 Lib.splitK;rcases Zk l with ⟨h',_⟩ | ⟨i,_,hm,_⟩
  · rw [h'];rfl
  exact absurd hm h
theorem o_ (n:Nat) (h:(32:UInt8)∈l):D6 l (n+1)=U1 l::D6 (Z0 l) n:=by
 unfold D6;rw [Lib.splitK];rcases Zk l with ⟨_,hn⟩ | ⟨i,hi,_,h1,h2⟩
 · exact absurd h hn
 rw [hi,if_neg U0];simp only [Int.toNat_natCast,Nat.add_zero,List.length_singleton,h1,h2]
theorem ul {b q:List UInt8} (ha:(10:UInt8)∉a) (hb:(10:UInt8)∉b) (h:a++10::r=b++10::q):a=b/\r=q:=by
 induction a generalizing b with
 | nil=>
  cases b with
  | nil=>simpa using h
  | cons c b=>simp at h;exact absurd (by rw [h.1];simp) hb
 | cons d a ih=>
  cases b with
  | nil=>simp at h;exact absurd (by rw [h.1];simp) ha
  | cons c b=>
   simp only [List.cons_append,List.cons.injEq] at h;obtain ⟨h1,h2⟩:=ih (fun h=>ha (List.mem_cons_of_mem _ h)) (fun h=>hb (List.mem_cons_of_mem _ h)) h.2;exact ⟨by rw [h.1,h1],h2⟩
theorem Gj {a:ByteArray} (h:a.data.toList=b.data.toList):a=b:=ByteArray.ext (Array.toList_inj.1 h)
theorem ZB (l:List UInt8):((Lib.cut l [10]).2.2=true/\l=(Lib.cut l [10]).1++10::(Lib.cut l [10]).2.1/\(10:UInt8)∉(Lib.cut l [10]).1)\/((Lib.cut l [10]).2.2=false/\(Lib.cut l [10]).1=l/\(10:UInt8)∉l):=by
 unfold Lib.cut;rw [Lib.index_one];have hge:=Lib.indexByte_ge l 10;by_cases h:Lib.indexByte l 10=-1
 · rw [h,if_neg O0]
   refine .inr ⟨rfl,rfl,fun hm=>?_⟩;obtain ⟨k,hk,e⟩:=List.getElem_of_mem hm;exact Lib.indexByte_none h k (by rw [List.getElem?_eq_getElem hk,e])
 obtain ⟨o,ho⟩:∃ o:Nat,Lib.indexByte l 10=o:=⟨(Lib.indexByte l 10).toNat,O0⟩;obtain ⟨h1,h2⟩:=Lib.indexByte_some ho;have hl:o<l.length:=by
  rcases Nat.lt_or_ge o l.length with h | h
  · exact h
  rw [List.getElem?_eq_none h] at h1;cases h1
 rw [ho,if_pos O0];refine .inl ⟨rfl,?_,fun hm=>?_⟩
 · simp only [Int.toNat_natCast,List.length_singleton]
   have hx:l[o]=10:=by rw [List.getElem?_eq_getElem hl] at h1;exact Option.some.inj h1
   conv=>lhs;rw [<- List.take_append_drop o l,List.drop_eq_getElem_cons hl,hx]
 simp only [Int.toNat_natCast] at hm;obtain ⟨k,hk,e⟩:=List.getElem_of_mem hm;rw [List.length_take] at hk;rw [List.getElem_take] at e;exact h2 k O0 (by rw [List.getElem?_eq_getElem O0,e])
theorem Yr (p:List (List UInt8)×List UInt8) (a:List UInt8) (h:(10:UInt8)∉a):(a++[10]).foldl (cst 10) p=(p.1++[p.2++a],[]):=by
 induction a generalizing p with
 | nil=>simp [cst]
 | cons c a ih=>
  have hc:c≠10:=fun e=>h (by rw [e];simp);rw [List.cons_append,List.foldl_cons,ih _ (fun h'=>h (List.mem_cons_of_mem _ h'))];simp [cst,hc]
theorem Hw (b:UInt8) (l:List UInt8) (p:List (List UInt8)×List UInt8) (N:Nat) (h1:∀ x∈p.1,x.length<=N) (h2:p.2.length+l.length<=N):(∀ x∈(l.foldl (cst b) p).1,x.length<=N)/\(l.foldl (cst b) p).2.length<=N:=by
 induction l generalizing p with
 | nil=>exact ⟨h1,by simpa using h2⟩
 | cons c l ih=>
  rw [List.foldl_cons];apply ih
  · unfold cst;split
    · intro x hx
      rcases List.mem_append.1 hx with h | h
      · exact h1 x h
      simp at h;subst h;simp at h2;omega
    exact h1
  simp only [List.length_cons] at h2;unfold cst;split
  · simp;omega
  simp;omega
theorem Sj (b:UInt8) (l:List UInt8) (k:Nat):((Z6 b l).getD k []).length<=l.length:=by
 obtain ⟨h1,h2⟩:=Hw b l ([],[]) l.length U0 U0;have h:∀ x∈Z6 b l,x.length<=l.length:=by
  intro x hx;unfold Z6 E5 at hx;rcases List.mem_append.1 hx with h | h
  · exact h1 x h
  simp at h;subst h;exact h2
 rcases Nat.lt_or_ge k (Z6 b l).length with hk | hk
 · rw [List.getD,List.getElem?_eq_getElem hk];exact h _ (List.getElem_mem hk)
 rw [List.getD,List.getElem?_eq_none hk];simp
theorem Pk (b:UInt8) (l:List UInt8):1<=(Z6 b l).length/\(Z6 b l).length<=l.length+1:=by
 have:=Wi b l;unfold Z6;rw [List.length_append,List.length_singleton];omega
theorem Kj (l:List UInt8):Za l=true↔l≠[]/\(l.headD 0=48->l=[48]):=by
 cases l with
 | nil=>simp [Za]
 | cons a r=>
  by_cases h:a=48
  · simp [Za,h]
  simp [Za,h]
theorem Wo (h1:Za l=true) (h2:l.all E9=true) (h3:val l<=40):Q7 l=true:=by
 have hd:decide (val l<=40)=true:=by simpa using h3
 simp only [Q7,h1,h2,hd,Bool.and_self]
theorem El (c:UInt8) (h:48<=(c.toNat:Int)/\(c.toNat:Int)<=57):IntKind.u8.wrap ((c.toNat:Int) - 48)=(c.toNat:Int) - 48:=by
 simp [IntKind.wrap,IntKind.signed,IntKind.bits];omega
def n29 (l:List UInt8):Int:=if (1<=l.length/\l.length<=7)/\l.all E9=true/\dec (val l)=l then val l else -1
theorem Jv (h:¬ (1<=l.length/\l.length<=7)):n29 l=-1:=by unfold n29;rw [if_neg (fun x=>h x.1)]
theorem Qv (h:l.all E9=false):n29 l=-1:=by unfold n29;rw [if_neg (fun x=>by rw [h] at x;cases x.2.1)]
theorem iw (h:dec (val l)≠l):n29 l=-1:=by unfold n29;rw [if_neg (fun x=>h x.2.2)]
theorem jl (h:1<=l.length/\l.length<=7) (h2:l.all E9=true) (h3:dec (val l)=l):n29 l=val l:=by unfold n29;rw [if_pos ⟨h,h2,h3⟩]
theorem Gn (l:List UInt8):decide (0<=n29 l/\n29 l<=40)=Q7 l:=by
 by_cases h:Q7 l=true
 · rw [h]
   have h':=h;simp only [Q7,Bool.and_eq_true,decide_eq_true_eq] at h';obtain ⟨⟨h1,h2⟩,h3⟩:=h';have hl:=xk l h2 h1 h3;have hne:=((Kj l).1 h1).1;have h1':1<=l.length:=List.length_pos_iff.2 hne;rw [jl ⟨h1',O0⟩ h2 (Rp l h2 h1).1];have:=Vg l h2;simp only [decide_eq_true_eq];omega
 have h':Q7 l=false:=by simpa using h
 rw [h'];simp only [decide_eq_false_iff_not];intro ⟨a,b⟩;unfold n29 at a b;by_cases c:(1<=l.length/\l.length<=7)/\l.all E9=true/\dec (val l)=l
 · rw [if_pos c] at a b
   have hd:=(Uq ((val l).toNat+1) (val l) a O0).1;rw [c.2.2] at hd;rw [Wo hd c.2.1 b] at h';cases h'
 rw [if_neg c] at a;omega
theorem yx (l:List UInt8) (h:l.all E9=true):val l<10 ^ l.length:=by
 revert h;refine Eh (P:=fun l=>l.all E9=true->val l<10 ^ l.length) (by simp [val]) (fun l c ih h=>?_) l;rw [List.all_append] at h;simp only [List.all_cons,List.all_nil,Bool.and_true,Bool.and_eq_true] at h;have:=ih h.1;have hc:=(J_ c).1 h.2;rw [G_,List.length_append,List.length_singleton,Int.pow_succ];omega
theorem Wn (l:List UInt8) (h:l.all E9=true) (hl:l.length<=7):val l<=10000000:=by
 have h1:=yx l h;have h2:(10:Int) ^ l.length<=10 ^ 7:=by exact_mod_cast Nat.pow_le_pow_right O0 hl
 omega
def N8 (w:World):Prop:=0<w.heap.size/\∃ m,w.cell? ⟨0,0,none⟩=some (.int .i64 m)
theorem P8 {w':World} (h:N8 w) (hb:Below w.heap.size w w'):N8 w':=by
 obtain ⟨h1,m,hm⟩:=h;exact ⟨Nat.lt_of_lt_of_le h1 hb.size,m,by rw [hb.cell (by exact h1)];exact hm⟩
theorem below_drewN (n:Nat):Below w.heap.size w (w.drewN n):=⟨rfl,rfl,rfl,Nat.le_refl _,fun _ _=>rfl⟩
theorem Eo {ss:List ByteArray} (h:ss.map (·.data.toList)=ls):ss=ls.map K3:=by
 rw [<- h,List.map_map]
 conv=>lhs;rw [<- List.map_id ss]
 refine List.map_congr_left fun s _=>?_;exact P9 rfl
theorem past {v:Value} (hp:p.block<w.heap.size) (h:w.cell? p=some v) (o:Obj):(w.alloc o).cell? p=some v:=by
 rw [((Below.refl w.heap.size w).alloc Q8 o).cell hp];exact h
theorem Ya (hp:p.block<w.heap.size) (h:w.frozen? p=false) (o:Obj):(w.alloc o).frozen? p=false:=by
 rw [((Below.refl w.heap.size w).alloc Q8 o).frozen hp];exact h
theorem XG (w:World) (x y z:Value) (t:TypeId):∀ j u,[x,y,z][j]?=some u->(w.alloc (.cells #[x,y,z] t)).cell? ((⟨w.heap.size,0,none⟩:Addr).add j)=some u:=by
 intro j u h
 match j,h with
 | 0,h=>simp at h;subst h;simp [Addr.add]
 | 1,h=>simp at h;subst h;simp [Addr.add]
 | 2,h=>simp at h;subst h;simp [Addr.add]
theorem Ff (hg:g=w.heap.size) (x y z:Value) (t:TypeId):∀ j u,[x,y,z][j]?=some u->(w.alloc (.cells #[x,y,z] t)).cell? ((⟨g,0,none⟩:Addr).add j)=some u:=by
 subst hg;exact XG w x y z t
theorem E8 {v:Value} (h:w.ownsRow B e 3 v n xs):∃ ao c,v=.slice ao n c:=by
 rcases h.2 with ⟨hv,h0⟩ | ⟨g,cap,cur,hv,_⟩
 · exact ⟨none,0,by rw [hv,h0]⟩
 exact ⟨_,_,hv⟩
theorem V4 {B':Nat} {v:Value} (h:w.ownsRow B e size v n xs) (hB:B'<=B):w.ownsRow B' e size v n xs:=by
 refine ⟨h.1,?_⟩;rcases h.2 with h2 | ⟨g,cap,cur,hv,hg,r⟩
 · exact .inl h2
 exact .inr ⟨g,cap,cur,hv,O0,r⟩
def strOf:Value->Nat | .string s=>s.size | _=>0
theorem Kq (s:ByteArray):K3 s.data.toList=s:=(P9 rfl).symm
def vr (c:Int) (l:List UInt8):Bool:=
 if c=0\/c=1 then decide (l.length<=300) else if c=2 then Q7 l else if c=3 then l.isEmpty else if c=4\/c=5\/c=7 then Y1 l else false
theorem Zw (h:Q7 l=true):l.length<=2:=by
 simp only [Q7,Bool.and_eq_true,decide_eq_true_eq] at h;exact xk l h.1.2 h.1.1 h.2
theorem fq (h:300<l.length):vr c l=false:=by
 have h1:decide (l.length<=300)=false:=by simp only [decide_eq_false_iff_not];omega
 have h2:Q7 l=false:=by
  by_cases h2:Q7 l=true
  · have:=Zw h2;omega
  simpa using h2
 have h3:l.isEmpty=false:=by cases l with | nil=>simp at h | cons a r=>rfl
 have h4:Y1 l=false:=by
  unfold Y1;have:decide (1<=l.length/\l.length<=20)=false:=by simp only [decide_eq_false_iff_not];omega
  rw [this];rfl
 unfold vr;rw [h1,h2,h3,h4];split <;> (try rfl)
 split <;> (try rfl)
 split <;> (try rfl)
 split <;> rfl
end Go.Proofs.YtdpoaadafcaffaaGreatDoor
namespace Go.Proofs.YtdpoaadafcaffaaGreatDoor
open Go.RowKit
theorem Ht (l:List UInt8):l.all E9=true->∀ k,val (l.take k)<=val l:=by
 refine Eh (P:=fun l=>l.all E9=true->∀ k,val (l.take k)<=val l) (by simp [val]) (fun l c ih h k=>?_) l;rw [List.all_append] at h;simp only [List.all_cons,List.all_nil,Bool.and_true,Bool.and_eq_true] at h;by_cases hk:k<=l.length
 · rw [List.take_append_of_le_length hk,G_]
   have:=ih h.1 k;have h0:=Vg l h.1;have hc:=(J_ c).1 h.2;omega
 rw [List.take_of_length_le X3];exact Int.le_refl _
theorem dx (n:Int) (h:0<=n) (h1:n<=100000000):IntKind.i64.wrap (n.tdiv 10)=n / 10:=by
 rw [Int.tdiv_eq_ediv_of_nonneg h];simp [IntKind.wrap,IntKind.signed,IntKind.bits];omega
end Go.Proofs.YtdpoaadafcaffaaGreatDoor
namespace Go.Proofs
open Go.Shelf
def Tryz.Kr:Go.Shelf.Ren:=⟨fun | 137=>193 | 217=>187 | 266=>196 | n => n, fun | 9=>9 | 5=>5 | 3=>3 | n => n, fun | n=>n⟩
theorem Tryz.vD:Go.Proofs.Lays.n137 Tryz.prog Tryz.Kr:={
 mixed:=I1
 f137:=Tryz.func193.trans (congrArg some I1)
 f217:=Tryz.func187.trans (congrArg some I1)
 f266:=Tryz.func196.trans (congrArg some I1)
 t3:=Tryz.underlying3
 a3:=Tryz.isAgg3
 z3:=Tryz.sizeOf3
 v3:=Tryz.zeroValue3
 t5:=Tryz.underlying5
 a5:=Tryz.isAgg5
 z5:=Tryz.sizeOf5
 v5:=Tryz.zeroValue5
 t9:=Tryz.underlying9
 a9:=Tryz.isAgg9
 z9:=Tryz.sizeOf9
 v9:=Tryz.zeroValue9 }
theorem Tryz.strings_IndexByte (s:ByteArray) (c:Int) (w:World):
 Calls Tryz.prog 193 #[.string s,.int .u8 c] w fun e w'=>e=.returned (.int .i64 (Lib.indexByte s.data.toList c.toNat.toUInt8))/\w'=w:=Any.strings_IndexByte Tryz.vD s c w
def Tryz.Qq:Go.Shelf.Ren:=⟨fun | 145=>91 | 220=>132 | 219=>169 | 217=>187 | 225=>188 | 224=>189 | 267=>190 | 266=>196 | 314=>197 | n => n, fun | 9=>9 | 4=>4 | 59=>161 | 3=>3 | 5=>5 | 46=>133 | 146=>272 | 51=>181 | n => n, fun | 1=>0 | n=>n⟩
theorem Tryz.lC:Go.Proofs.Lays.n145 Tryz.prog Tryz.Qq:={
 mixed:=I1
 f145:=Tryz.func91.trans (congrArg some I1)
 f217:=Tryz.func187.trans (congrArg some I1)
 f219:=Tryz.func169.trans (congrArg some I1)
 f220:=Tryz.func132.trans (congrArg some I1)
 f224:=Tryz.func189.trans (congrArg some I1)
 f225:=Tryz.func188.trans (congrArg some I1)
 f266:=Tryz.func196.trans (congrArg some I1)
 f267:=Tryz.func190.trans (congrArg some I1)
 f314:=Tryz.func197.trans (congrArg some I1)
 t3:=Tryz.underlying3
 a3:=Tryz.isAgg3
 z3:=Tryz.sizeOf3
 v3:=Tryz.zeroValue3
 t4:=Tryz.underlying4
 a4:=Tryz.isAgg4
 z4:=Tryz.sizeOf4
 v4:=Tryz.zeroValue4
 t5:=Tryz.underlying5
 a5:=Tryz.isAgg5
 z5:=Tryz.sizeOf5
 v5:=Tryz.zeroValue5
 t9:=Tryz.underlying9
 a9:=Tryz.isAgg9
 z9:=Tryz.sizeOf9
 v9:=Tryz.zeroValue9
 t46:=Tryz.underlying133
 a46:=Tryz.isAgg133
 z46:=Tryz.sizeOf133
 v46:=Tryz.zeroValue133
 t51:=Tryz.underlying181
 a51:=Tryz.isAgg181
 z51:=Tryz.sizeOf181
 v51:=Tryz.zeroValue181
 t59:=Tryz.underlying161
 a59:=Tryz.isAgg161
 z59:=Tryz.sizeOf161
 v59:=Tryz.zeroValue161
 t146:=Tryz.underlying272
 a146:=Tryz.isAgg272
 z146:=Tryz.sizeOf272
 v146:=Tryz.zeroValue272
 g1:=by kernel_rfl }
theorem Tryz.strings_Cut (s sep:ByteArray) (m:Int) (w:World) (hs:s.size<4294967281) (hm:w.cell? ⟨0,0,none⟩=some (.int .i64 m)):
 Calls Tryz.prog 91 #[.string s,.string sep] w fun e w'=>e=.returned (.tuple #[.string ⟨(Lib.cut s.data.toList sep.data.toList).1.toArray⟩,.string ⟨(Lib.cut s.data.toList sep.data.toList).2.1.toArray⟩,.bool (Lib.cut s.data.toList sep.data.toList).2.2])/\∃ n,w'=w.drewN n:=Any.strings_Cut Tryz.lC s sep m w hs hm
def Tryz.jr:Go.Shelf.Ren:=⟨fun | 147=>134 | 221=>170 | 268=>191 | 138=>142 | 143=>178 | 195=>176 | 197=>198 | 218=>177 | 219=>169 | 260=>204 | 217=>187 | 225=>188 | 224=>189 | 267=>190 | 266=>196 | 314=>197 | n => n, fun | 9=>9 | 3=>3 | 31=>73 | 4=>4 | 0=>0 | 105=>274 | 21=>21 | 5=>5 | 46=>133 | 119=>285 | 139=>288 | 138=>287 | 146=>272 | 51=>181 | n => n, fun | 1=>0 | 3=>11 | 4=>12 | n=>n⟩
theorem Tryz.qD:Go.Proofs.Lays.n147 Tryz.prog Tryz.jr:={
 mixed:=I1
 f138:=Tryz.func142.trans (congrArg some I1)
 f143:=Tryz.func178.trans (congrArg some I1)
 f147:=Tryz.func134.trans (congrArg some I1)
 f195:=Tryz.func176.trans (congrArg some I1)
 f197:=Tryz.func198.trans (congrArg some I1)
 f217:=Tryz.func187.trans (congrArg some I1)
 f218:=Tryz.func177.trans (congrArg some I1)
 f219:=Tryz.func169.trans (congrArg some I1)
 f221:=Tryz.func170.trans (congrArg some I1)
 f224:=Tryz.func189.trans (congrArg some I1)
 f225:=Tryz.func188.trans (congrArg some I1)
 f260:=Tryz.func204.trans (congrArg some I1)
 f266:=Tryz.func196.trans (congrArg some I1)
 f267:=Tryz.func190.trans (congrArg some I1)
 f268:=Tryz.func191.trans (congrArg some I1)
 f314:=Tryz.func197.trans (congrArg some I1)
 t0:=Tryz.underlying0
 a0:=Tryz.isAgg0
 z0:=Tryz.sizeOf0
 v0:=Tryz.zeroValue0
 t3:=Tryz.underlying3
 a3:=Tryz.isAgg3
 z3:=Tryz.sizeOf3
 v3:=Tryz.zeroValue3
 t4:=Tryz.underlying4
 a4:=Tryz.isAgg4
 z4:=Tryz.sizeOf4
 v4:=Tryz.zeroValue4
 t5:=Tryz.underlying5
 a5:=Tryz.isAgg5
 z5:=Tryz.sizeOf5
 v5:=Tryz.zeroValue5
 t9:=Tryz.underlying9
 a9:=Tryz.isAgg9
 z9:=Tryz.sizeOf9
 v9:=Tryz.zeroValue9
 t21:=Tryz.underlying21
 a21:=Tryz.isAgg21
 z21:=Tryz.sizeOf21
 v21:=Tryz.zeroValue21
 t31:=Tryz.underlying73
 a31:=Tryz.isAgg73
 z31:=Tryz.sizeOf73
 v31:=Tryz.zeroValue73
 t46:=Tryz.underlying133
 a46:=Tryz.isAgg133
 z46:=Tryz.sizeOf133
 v46:=Tryz.zeroValue133
 t51:=Tryz.underlying181
 a51:=Tryz.isAgg181
 z51:=Tryz.sizeOf181
 v51:=Tryz.zeroValue181
 t105:=Tryz.underlying274
 a105:=Tryz.isAgg274
 z105:=Tryz.sizeOf274
 v105:=Tryz.zeroValue274
 t119:=Tryz.underlying285
 a119:=Tryz.isAgg285
 z119:=Tryz.sizeOf285
 t138:=Tryz.underlying287
 a138:=Tryz.isAgg287
 z138:=Tryz.sizeOf287
 v138:=Tryz.zeroValue287
 t139:=Tryz.underlying288
 a139:=Tryz.isAgg288
 z139:=Tryz.sizeOf288
 v139:=Tryz.zeroValue288
 t146:=Tryz.underlying272
 a146:=Tryz.isAgg272
 z146:=Tryz.sizeOf272
 v146:=Tryz.zeroValue272
 g1:=I1
 g3:=I1
 g4:=by kernel_rfl }
theorem Tryz.strings_SplitN (s sep:ByteArray) (n:Nat) (m:Int) (w:World) (hs:s.size<4294967281) (hm:w.cell? ⟨0,0,none⟩=some (.int .i64 m)) (h1:1<=sep.size) (hn:1<=n) (hn63:n<=9223372036854775807):
 Calls Tryz.prog 134 #[.string s,.string sep,.int .i64 n] w fun e w'=>
  e=.returned (.slice (some ⟨w.heap.size,0,none⟩) (Lib.splitB sep 0 (min n (s.size+1) - 1) s).length (min n (s.size+1)))/\w'=w.alloc (.cells (Lib.cellsOf (Lib.splitB sep 0 (min n (s.size+1) - 1) s) (min n (s.size+1))) 9):=Any.strings_SplitN Tryz.qD I1 s sep n m w hs hm h1 hn hn63
def Tryz.Us:Go.Shelf.Ren:=⟨fun | 146=>185 | 221=>170 | 268=>191 | 138=>142 | 143=>178 | 195=>176 | 197=>198 | 218=>177 | 219=>169 | 260=>204 | 217=>187 | 225=>188 | 224=>189 | 267=>190 | 266=>196 | 314=>197 | n => n, fun | 9=>9 | 31=>73 | 3=>3 | 4=>4 | 0=>0 | 105=>274 | 21=>21 | 5=>5 | 46=>133 | 119=>285 | 139=>288 | 138=>287 | 146=>272 | 51=>181 | n => n, fun | 1=>0 | 3=>11 | 4=>12 | n=>n⟩
theorem Tryz.xD:Go.Proofs.Lays.n146 Tryz.prog Tryz.Us:={
 mixed:=I1
 f138:=Tryz.func142.trans (congrArg some I1)
 f143:=Tryz.func178.trans (congrArg some I1)
 f146:=Tryz.func185.trans (congrArg some I1)
 f195:=Tryz.func176.trans (congrArg some I1)
 f197:=Tryz.func198.trans (congrArg some I1)
 f217:=Tryz.func187.trans (congrArg some I1)
 f218:=Tryz.func177.trans (congrArg some I1)
 f219:=Tryz.func169.trans (congrArg some I1)
 f221:=Tryz.func170.trans (congrArg some I1)
 f224:=Tryz.func189.trans (congrArg some I1)
 f225:=Tryz.func188.trans (congrArg some I1)
 f260:=Tryz.func204.trans (congrArg some I1)
 f266:=Tryz.func196.trans (congrArg some I1)
 f267:=Tryz.func190.trans (congrArg some I1)
 f268:=Tryz.func191.trans (congrArg some I1)
 f314:=Tryz.func197.trans (congrArg some I1)
 t0:=Tryz.underlying0
 a0:=Tryz.isAgg0
 z0:=Tryz.sizeOf0
 v0:=Tryz.zeroValue0
 t3:=Tryz.underlying3
 a3:=Tryz.isAgg3
 z3:=Tryz.sizeOf3
 v3:=Tryz.zeroValue3
 t4:=Tryz.underlying4
 a4:=Tryz.isAgg4
 z4:=Tryz.sizeOf4
 v4:=Tryz.zeroValue4
 t5:=Tryz.underlying5
 a5:=Tryz.isAgg5
 z5:=Tryz.sizeOf5
 v5:=Tryz.zeroValue5
 t9:=Tryz.underlying9
 a9:=Tryz.isAgg9
 z9:=Tryz.sizeOf9
 v9:=Tryz.zeroValue9
 t21:=Tryz.underlying21
 a21:=Tryz.isAgg21
 z21:=Tryz.sizeOf21
 v21:=Tryz.zeroValue21
 t31:=Tryz.underlying73
 a31:=Tryz.isAgg73
 z31:=Tryz.sizeOf73
 v31:=Tryz.zeroValue73
 t46:=Tryz.underlying133
 a46:=Tryz.isAgg133
 z46:=Tryz.sizeOf133
 v46:=Tryz.zeroValue133
 t51:=Tryz.underlying181
 a51:=Tryz.isAgg181
 z51:=Tryz.sizeOf181
 v51:=Tryz.zeroValue181
 t105:=Tryz.underlying274
 a105:=Tryz.isAgg274
 z105:=Tryz.sizeOf274
 v105:=Tryz.zeroValue274
 t119:=Tryz.underlying285
 a119:=Tryz.isAgg285
 z119:=Tryz.sizeOf285
 t138:=Tryz.underlying287
 a138:=Tryz.isAgg287
 z138:=Tryz.sizeOf287
 v138:=Tryz.zeroValue287
 t139:=Tryz.underlying288
 a139:=Tryz.isAgg288
 z139:=Tryz.sizeOf288
 v139:=Tryz.zeroValue288
 t146:=Tryz.underlying272
 a146:=Tryz.isAgg272
 z146:=Tryz.sizeOf272
 v146:=Tryz.zeroValue272
 g1:=I1
 g3:=I1
 g4:=by kernel_rfl }
theorem Tryz.strings_Split (s sep:ByteArray) (m:Int) (w:World) (hs:s.size<4294967281) (hm:w.cell? ⟨0,0,none⟩=some (.int .i64 m)) (h1:1<=sep.size):
 Calls Tryz.prog 185 #[.string s,.string sep] w fun e w'=>
  e=.returned (.slice (some ⟨w.heap.size,0,none⟩) (Lib.countB s sep+1) (Lib.countB s sep+1))/\w'=w.alloc (.cells ((Lib.splitB sep 0 (Lib.countB s sep) s).map Value.string).toArray 9):=Any.strings_Split Tryz.xD I1 s sep m w hs hm h1
end Go.Proofs
namespace Go.Proofs.YtdpoaadafcaffaaGreatDoor.G
end Go.Proofs.YtdpoaadafcaffaaGreatDoor.G
