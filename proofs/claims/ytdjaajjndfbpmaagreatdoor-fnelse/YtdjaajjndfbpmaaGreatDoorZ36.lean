import Derived.Deep.RegionHeld3
import Derived.WalkSpells
import Derived.WalkLawsBesides
import Derived.Laws.BytesArg
import Derived.Deep.RegionWith
import Derived.Deep.QuietTactic
import Derived.BigQuiet
import Derived.Laws.Cover1
import Derived.Lib.Bytealg
import GoSem.Claim
import GoSem.ClaimJoined
import Derived.JoinedTies
import Derived.KernelRfl
import Derived.RowKit
import Derived.Laws.Externs
import Derived.Laws.BitsAllLaws
import Derived.Deep.RegionLaw
import Derived.Shelf.Strings.Split
import Derived.Shelf.Strings.Cut
import Derived.Shelf.Small.Strs
import Derived.Lib.IndexBytes
import Derived.Lib.IndexLaws
import Derived.Lib.Split
import Derived.Lib.CountLaws
import Derived.Outline
import Derived.Laws.Rows
import Derived.Laws.IdiomCopy
import Derived.Laws.OwnMore
import Derived.Test.YtdjaajjndfbpmaaGreatDoorShelfA
set_option linter.unusedVariables false
set_option maxHeartbeats 8000000
set_option maxRecDepth 100000
namespace Go.Proofs
theorem Q0 {p:Prop} (h:p):Go.RowKit.Hid p:=h
theorem bA {w:World} {o:Obj}:Go.RowKit.Below w.heap.size w (w.alloc o):=(Go.RowKit.Below.refl _ _).alloc (Nat.le_refl _) _
theorem bT {w u v:World} (h:Go.RowKit.Below w.heap.size w u) (k:Go.RowKit.Below u.heap.size u v):Go.RowKit.Below w.heap.size w v:=h.trans (k.mono h.size)
theorem O0 {p:Prop} (h:p:=by omega):p:=h
theorem J4 {p:Prop} (h:p:=by simp;omega):p:=h
theorem X0 {p:Prop} (h:p:=by simp):p:=h
theorem K3 {p:Prop} (h:p:=by decide):p:=h
theorem U2 {p:Prop} (h:p:=by kernel_rfl):p:=h
theorem P9 {n:Nat}:n<=n:=Nat.le_refl n
abbrev F4:=@Go.RowKit.Below.refl
abbrev K4:=@Go.bodyPost_ret
abbrev F8:=@List.getElem?_eq_getElem
abbrev Z5:=@Go.Lib.cell_of_heap
abbrev F7:=@Go.wp_region_held_drew
abbrev Z4:=@Nat.le_trans
abbrev I7:=@Go.ByteArray.toList_eq
abbrev j6:=@Option.some.inj
abbrev Q7:=@List.length_append
abbrev I5:=@Nat.zero_le
abbrev F5:=@Nat.not_lt_zero
abbrev O7:=@Go.World.cell?_setCell_same
abbrev V3:=@congrArg
abbrev A8:=@Int.eq_ofNat_of_zero_le
abbrev D7:=@Nat.lt_of_lt_of_le
abbrev U5:=@Nat.lt_or_ge
abbrev R3:=@if_neg
abbrev o8:=@Go.heap_setCell_same
abbrev K9:=@ByteArray.size_append
abbrev V7:=@Bool.and_eq_true
abbrev Y3:=@if_pos
abbrev Z8:=@Go.heap_setCell_other
abbrev O_:=@Go.World.cell?_setCell_other
abbrev Ha:=@Array.getElem?_eq_some_iff
abbrev Q6:=@Nat.le_refl
abbrev E_:=@List.take_of_length_le
abbrev F9:=@Go.World.ownsRow_nil
abbrev R9:=@List.mem_singleton
abbrev x8:=@Go.AllReadyH.cons
abbrev P8:=@List.mem_append
abbrev Eb:=@List.getElem?_append_left
abbrev R7:=@Nat.zero_add
abbrev B_:=@Go.Lib.frozen_of_heap
abbrev I_:=@Bool.false_eq_true
abbrev y_:=@List.append_assoc
abbrev Jd:=@List.getElem?_eq_some_iff
abbrev u_:=@List.length_cons
abbrev Q_:=@decide_eq_true_eq
abbrev D9:=@List.mem_map
abbrev Lb:=@List.getElem_of_mem
abbrev Ce:=@List.length_eq_zero_iff
abbrev Ea:=@List.getElem_mem
abbrev Rh:=@List.take_succ_eq_append_getElem
abbrev Ba:=@List.nil_append
abbrev Kb:=@List.getElem?_map
abbrev D_:=@List.mem_cons
abbrev Xe:=@List.getElem?_eq_none
abbrev Bc:=@List.cons_append
abbrev qc:=@List.length_map
abbrev Ph:=@Classical.byContradiction
abbrev Ra:=@Go.AllReadyH.nil
abbrev Qe:=@List.flatMap_cons
abbrev ji:=@List.getElem?_append_right
abbrev Ed:=@List.length_set
abbrev Ma:=@Go.wpAnyH_ready
abbrev Fg:=@List.mem_cons_of_mem
abbrev Hd:=@ByteArray.ext
abbrev mf:=@List.map_append
abbrev Ye:=@List.cons.injEq
abbrev Nf:=@List.all_eq_true
abbrev Xg:=@Nat.eq_zero_or_pos
abbrev ag:=@Array.toList_inj
abbrev Xf:=@List.not_mem_nil
abbrev Wj:=@List.drop_of_length_le
abbrev Yj:=@Array.getElem?_eq_none
abbrev Uh:=@List.mem_cons_self
abbrev Gi:=@beq_eq_false_iff_ne
abbrev Ao:=@List.getD_eq_getElem?_getD
abbrev Ie:=@Classical.em
abbrev Hg:=@UInt8.toNat_inj
abbrev Jf:=@Go.Lib.alloc_old
abbrev Oh:=@decide_eq_false
abbrev Hf:=@Go.Sem.run_bind
abbrev Tj:=@Go.World.ownsMap_made
abbrev Uo:=@Option.map_eq_some_iff
abbrev Oj:=@Go.Result.andThen_ok
abbrev Io:=@List.take_append_drop
abbrev ig:=@Go.results_none
abbrev Mi:=@List.length_nil
abbrev Vi:=@List.all_append
abbrev Gm:=@Go.World.ownsRow_made
abbrev Ze:=@Go.info_parts
abbrev Bo:=@List.map_congr_left
abbrev Vs:=@List.drop_eq_getElem_cons
abbrev Xj:=@List.append_nil
abbrev Jr:=@Go.RowKit.ownsRow_setCell_below
abbrev uo:=@List.pairwise_cons
abbrev Mo:=@List.getElem?_take
abbrev Rt:=@List.getElem?_take_of_lt
abbrev Nh:=@Nat.add_zero
abbrev ni:=@List.all_cons
abbrev Vf:=@beq_iff_eq
abbrev Ar:=@List.pairwise_append
abbrev yo:=@Nat.lt_trichotomy
abbrev xm:=@List.mem_filter
abbrev Rl:=@Bool.or_eq_true
abbrev Uq:=@List.flatMap_append
abbrev zq:=@List.getElem?_drop
abbrev Qj:=@Go.Addr.add_lit
abbrev Nj:=@Go.Sem.run_pure
abbrev Un:=@List.mem_of_mem_take
abbrev Sn:=@Go.World.cell?_alloc_lt
abbrev vk:=@List.ext_getElem?
abbrev zh:=@List.map_cons
abbrev jr:=@List.pairwise_singleton
abbrev Tk:=@List.mem_flatMap
abbrev Jk:=@List.length_take
abbrev bv:=@Int.tdiv_eq_ediv_of_nonneg
abbrev Om:=@Go.World.ownsRow_lit
abbrev Tm:=@List.getElem?_set
abbrev gu:=@List.pairwise_iff_getElem
abbrev Sv:=@List.mem_or_eq_of_mem_set
abbrev Zc:=@if_true
abbrev Wn:=@Go.World.size_alloc
abbrev Sm:=@Go.RowKit.Below.heap_alloc
abbrev Yn:=@List.length_drop
abbrev iq:=@List.length_pos_iff
abbrev xk:=@Nat.add_assoc
abbrev Xq:=@Go.RowKit.Below.heap_setCell
abbrev Sz:=@List.take_append_of_le_length
abbrev RA:=@List.drop_append_of_le_length
abbrev Br:=@List.size_toArray
abbrev Cs:=@List.pairwise_map
abbrev Mr:=@Bool.not_eq_true'
abbrev Bn:=@Go.heap_alloc_new
abbrev uk:=@List.map_nil
abbrev Fu:=@List.length_singleton
abbrev Xm:=@decide_eq_true
abbrev jk:=@Nat.zero_mul
abbrev Jh:=@Go.mem_ready
abbrev xg:=@if_false
abbrev su:=@List.mem_of_getElem?
abbrev Mq:=@List.map_toArray
abbrev Hz:=@Int.tmod_eq_emod_of_nonneg
abbrev Tv:=@List.length_take_le
abbrev Tu:=@Go.run_callFunc_extern
abbrev Oz:=@List.extract_eq_take_drop
abbrev YA:=@List.mem_of_find?_eq_some
abbrev Im:=@Int.lt_or_le
abbrev Dh:=@true_and
abbrev Zg:=@false_or
abbrev Yi:=@false_iff
abbrev Cr:=@List.drop_take
abbrev Xr:=@Go.run_underlying
abbrev Kv:=@List.nodup_append
abbrev Ev:=@List.foldl_append
abbrev Qv:=@Option.some.injEq
abbrev lH:=@ByteArray.getElem_eq_getElem_data
abbrev Vz:=@ByteArray.data_extract
abbrev Az:=@List.takeWhile_sublist
abbrev Fz:=@List.getElem?_set_self
abbrev Fv:=@List.take_length
abbrev iw:=@Nat.lt_succ_self
abbrev BA:=@Go.run_convert_bytes_arg
abbrev uz:=@Array.getElem?_toList
abbrev XA:=@List.mem_append_left
abbrev Kq:=@List.map_map
abbrev Qu:=@List.foldl_cons
abbrev TA:=@Array.toList_extract
abbrev Xz:=@Go.World.cell?_of_block
abbrev Zz:=@List.getElem?_set_ne
abbrev Pm:=@Go.ready_mono
abbrev uF:=@List.eq_nil_of_length_eq_zero
abbrev Nk:=@or_false
abbrev cB:=@List.find?_eq_none
abbrev Qz:=@List.filter_append
abbrev rF:=@List.append_cancel_right_eq
abbrev Kz:=@Bool.false_ne_true
abbrev dB:=@Int.emod_lt_of_pos
abbrev kF:=@Go.Lib.run_unsafeSliceData_row
abbrev BG:=@Array.getElem?_append_left
abbrev KE:=@Nat.mod_two_eq_zero_or_one
abbrev OE:=@List.nodup_iff_pairwise_ne
abbrev QA:=@List.getElem_take
abbrev aA:=@Array.any_eq_true
abbrev AA:=@Array.getElem_mem
abbrev xA:=@Option.getD_some
abbrev jw:=@Nat.lt_trans
abbrev Su:=@Nat.succ_mul
abbrev au:=@UInt8.not_lt
abbrev Pv:=@Go.wpList_plain
abbrev dF:=@Array.setIfInBounds_comm
abbrev iA:=@List.append_inj'
abbrev ZF:=@decide_eq_false_iff_not
abbrev nA:=@List.nodup_cons
abbrev qz:=@Go.Lib.splitB_data
abbrev JA:=@Int.emod_nonneg
abbrev LA:=@UInt8.lt_irrefl
abbrev Dz:=@Option.any_some
abbrev Tz:=@List.find?_some
abbrev Wu:=@Go.getD_set_ne
abbrev pz:=@List.drop_zero
abbrev UA:=@Nat.mul_le_mul
abbrev Iz:=@List.drop_drop
abbrev Gv:=@Nat.mod_lt
abbrev vw:=@bne_iff_ne
end Go.Proofs
namespace Go.Proofs.YtdjaajjndfbpmaaGreatDoor
variable {α:Type} {P:Program} {ops:Array Oper} {md:Region.Mode} {fuel i:Nat} {listed:Array Bool} {a:Act} {w:World} {o oi:Oper} {v:Value} {d:Option Nat} {op:Op} {ty:TypeId} {p:String} {af:Array Edge}
theorem qq:(∀ (a:Act) (d:Nat) (v:Value),a.put (some d) v={ a with tmps:=a.tmps.setIfInBounds d v })/\(∀ (a:Act) (v:Value),a.put none v=a)/\(∀ {α:Type} (l:List α) (i:Nat) (a:α),l.toArray.setIfInBounds i a=(l.set i a).toArray)/\(∀ {α:Type} (x:α) (l:List α) (a:α),(x::l).set 0 a=a::l)/\∀ {α:Type} (x:α) (l:List α) (i:Nat) (a:α),(x::l).set (i+1) a=x::l.set i a:=⟨fun _ _ _=>rfl,fun _ _=>rfl,fun _ _ _=>List.setIfInBounds_toArray ..,fun _ _ _=>rfl,fun _ _ _ _=>rfl⟩
theorem rd {Q:Exit->Act->World->Prop} {S:World->Prop} (ho:ops[i]?=some o) (hr:Region.ready md ops listed=[i]) (h:∀ K':Act->World->Prop,Shut (∀ a w,S w->(S w->wpAnyH P md ops Q S fuel (listed.setIfInBounds i true) a w)->K' a w)->if Region.wanted o (yielded ops a.tmps)=true then Oper.wp P o a w K' Q else K' (a.put o.dst undef) w):wpAnyH P md ops Q S (fuel+1) listed a w:=wpAnyH_ready hr X0 (AllReadyH.cons ho h AllReadyH.nil)
theorem tk {Q:Exit->Act->World->Prop} {S:World->Prop} (hi:ops[i]?=some oi) (hb:(Region.noSelect ops&&Region.free md ops listed i&&(Region.ready md ops listed).contains i)=true) (hw:Region.wanted oi (yielded ops a.tmps)=true) (hv:∀ u,S u->(execOp a.eval oi).run P u=.ok (.value v) u) (hS:S w) (h:wpAnyH P md ops Q S fuel (listed.setIfInBounds i true) (a.put oi.dst v) w) (hQ:∀ c a w,Q (.panic c) (a.put oi.dst v) w->Q (.panic c) a w:=by exact fun _ _ _ h=>h):wpAnyH P md ops Q S (fuel+1) listed a w:=by
  simp only [Bool.and_eq_true] at hb;exact wpAnyH_take hi hb.1.1 hb.1.2 hb.2 hQ (.inl ⟨hw,hv⟩) hS h
theorem tu {Q:Exit->Act->World->Prop} {S:World->Prop} (hi:ops[i]?=some oi) (hb:(Region.noSelect ops&&Region.free md ops listed i&&(Region.ready md ops listed).contains i)=true) (hw:Region.wanted oi (yielded ops a.tmps)=false) (hS:S w) (h:wpAnyH P md ops Q S fuel (listed.setIfInBounds i true) (a.put oi.dst undef) w) (hQ:∀ c a w,Q (.panic c) (a.put oi.dst undef) w->Q (.panic c) a w:=by exact fun _ _ _ h=>h):wpAnyH P md ops Q S (fuel+1) listed a w:=by
  simp only [Bool.and_eq_true] at hb;exact wpAnyH_take hi hb.1.1 hb.1.2 hb.2 hQ (.inr ⟨hw,rfl⟩) hS h
theorem tq {Q:Exit->Act->World->Prop} {S:World->Prop} {g:Option (Nat×Bool)} (i:Nat) (hS:S w) (h:wpAnyH P md ops Q S fuel (listed.setIfInBounds i true) (a.put d v) w) (hi:ops[i]?=some ⟨d,op,ty,p,af,g⟩:=by exact rfl) (hb:(Region.noSelect ops&&Region.free md ops listed i&&(Region.ready md ops listed).contains i)=true:=by kernel_rfl) (hw:Region.wanted ⟨d,op,ty,p,af,g⟩ (yielded ops a.tmps)=true:=by exact rfl) (hv:∀ u,S u->(execOp a.eval ⟨d,op,ty,p,af,g⟩).run P u=.ok (.value v) u:=by intro wq hSw;(try dsimp only at hSw);go_simp;try with_reducible rfl) (hQ:∀ c a w,Q (.panic c) (a.put d v) w->Q (.panic c) a w:=by first | exact fun _ _ _ h=>h | exact fun _ _ _ h=>hQ _ _ _ _ _ h):wpAnyH P md ops Q S (fuel+1) listed a w:=tk hi hb hw hv hS h hQ
theorem uq {Q:Exit->Act->World->Prop} {S:World->Prop} {g:Option (Nat×Bool)} (i:Nat) (hS:S w) (h:wpAnyH P md ops Q S fuel (listed.setIfInBounds i true) (a.put d undef) w) (hi:ops[i]?=some ⟨d,op,ty,p,af,g⟩:=by exact rfl) (hb:(Region.noSelect ops&&Region.free md ops listed i&&(Region.ready md ops listed).contains i)=true:=by kernel_rfl) (hw:Region.wanted ⟨d,op,ty,p,af,g⟩ (yielded ops a.tmps)=false:=by exact rfl) (hQ:∀ c a w,Q (.panic c) (a.put d undef) w->Q (.panic c) a w:=by first | exact fun _ _ _ h=>h | exact fun _ _ _ h=>hQ _ _ _ _ _ h):wpAnyH P md ops Q S (fuel+1) listed a w:=tu hi hb hw hS h hQ
theorem I4 {Q:Exit->Act->World->Prop} {S:World->Prop} {g:Option (Nat×Bool)} {a1:Act} (i:Nat) (hS:S w) (h:wpAnyH P md ops Q S fuel (listed.setIfInBounds i true) a1 w) (hi:ops[i]?=some ⟨d,op,ty,p,af,g⟩:=by exact rfl) (hb:(Region.noSelect ops&&Region.free md ops listed i&&(Region.ready md ops listed).contains i)=true:=by kernel_rfl) (hw:Region.wanted ⟨d,op,ty,p,af,g⟩ (yielded ops a.tmps)=true:=by exact rfl) (hv:∀ u,S u->(execOp a.eval ⟨d,op,ty,p,af,g⟩).run P u=.ok (.value v) u:=by intro wq hSw;(try dsimp only at hSw);go_simp;try with_reducible rfl) (hQ:∀ c a w,Q (.panic c) (a.put d v) w->Q (.panic c) a w:=by first | exact fun _ _ _ h=>h | exact fun _ _ _ h=>hQ _ _ _ _ _ h) (ea:a.put d v=a1:=by first | (simp only [qq];rfl) | rfl):wpAnyH P md ops Q S (fuel+1) listed a w:=tq i hS (ea▸h) hi hb hw hv hQ
theorem I8 {Q:Exit->Act->World->Prop} {S:World->Prop} {g:Option (Nat×Bool)} {a1:Act} (i:Nat) (hS:S w) (h:wpAnyH P md ops Q S fuel (listed.setIfInBounds i true) a1 w) (hi:ops[i]?=some ⟨d,op,ty,p,af,g⟩:=by exact rfl) (hb:(Region.noSelect ops&&Region.free md ops listed i&&(Region.ready md ops listed).contains i)=true:=by kernel_rfl) (hw:Region.wanted ⟨d,op,ty,p,af,g⟩ (yielded ops a.tmps)=false:=by exact rfl) (hQ:∀ c a w,Q (.panic c) (a.put d undef) w->Q (.panic c) a w:=by first | exact fun _ _ _ h=>h | exact fun _ _ _ h=>hQ _ _ _ _ _ h) (ea:a.put d undef=a1:=by first | (simp only [qq];rfl) | rfl):wpAnyH P md ops Q S (fuel+1) listed a w:=uq i hS (ea▸h) hi hb hw hQ
theorem Z6 {S:World->Prop} {X K:Act->World->Prop} {a1:Act} (hK:Shut (∀ a w,S w->(S w->X a w)->K a w)) (hS:S w) (h:S w->X a1 w) (ea:a=a1:=by first | (simp only [qq];rfl) | rfl):K a w:=hK.out _ _ hS (ea▸h)
theorem CP {S:World->Prop} {X K:Act->World->Prop} {a1:Act} (hK:Shut (∀ a w,S w->(S w->X a w)->K a w)) (h:S w->X a1 w) (hS:S w:=by (try dsimp only);go_keep) (ea:a=a1:=by first | (simp only [qq];rfl) | rfl):K a w:=hK.out _ _ hS (ea▸h)
theorem Ls {S:World->Prop} {X K:Act->World->Prop} (hK:Shut (∀ a w,S w->(S w->X a w)->K a w)) (h:S w->X a w) (hS:S w:=by (try dsimp only);go_keep):K a w:=hK.out _ _ hS h
theorem a_ {Q:Exit->Act->World->Prop} {S:World->Prop} (h:Q .normal a w) (hr:Region.ready md ops listed=[]:=by kernel_rfl):wpAnyH P md ops Q S fuel listed a w:=wpAnyH_done hr h _
theorem rq {Q:Exit->Act->World->Prop} {S:World->Prop} {g:Option (Nat×Bool)} (i:Nat) (h:∀ K':Act->World->Prop,Shut (∀ a w,S w->(S w->wpAnyH P md ops Q S fuel (listed.setIfInBounds i true) a w)->K' a w)->if Region.wanted ⟨d,op,ty,p,af,g⟩ (yielded ops a.tmps)=true then Oper.wp P ⟨d,op,ty,p,af,g⟩ a w K' Q else K' (a.put d undef) w) (ho:ops[i]?=some ⟨d,op,ty,p,af,g⟩:=by exact rfl) (hr:Region.ready md ops listed=[i]:=by kernel_rfl):wpAnyH P md ops Q S (fuel+1) listed a w:=rd ho hr h
end Go.Proofs.YtdjaajjndfbpmaaGreatDoor
namespace Go.Proofs.YtdjaajjndfbpmaaGreatDoor
open Proofs.Tryz
open Go.RowKit
variable {a l r:List UInt8} {b s:ByteArray} {B g k n size:Nat} {w:World} {c y:Int} {ls ss:List (List UInt8)} {p:Addr} {e:TypeId} {xs:List Value}
def kg (c:UInt8):Bool:=decide (33<=(c.toNat:Int)/\(c.toNat:Int)<=126)
def J2 (l:List UInt8):Bool:=decide (1<=l.length/\l.length<=20)&&l.all kg
theorem qj (c:UInt8):kg c=true↔33<=(c.toNat:Int)/\(c.toNat:Int)<=126:=by simp [kg]
theorem d_ (s:ByteArray) (k:Nat) (h:k<s.size):s.data.toList.take (k+1)=s.data.toList.take k++[s[k]]:=by
 rw [List.take_succ_eq_append_getElem (by simpa using h)];rfl
theorem Y4 {a b:Bool} (h:a=b):Ending.returned (.bool a)=.returned (.bool b):=by rw [h]
theorem vH (n l h:Int) (w:World):
 Calls prog 55 #[.int .i64 n,.int .i64 l,.int .i64 h] w fun e w'=>e=.returned (.bool (decide (l<=n/\n<=h)))/\w'=w:=by
 by_cases h1:l<=n <;> by_cases h2:n<=h
 all_goals
  go_enter func55,ntmps55;go_wp2
  all_goals go_ret
  all_goals exact ⟨by simp [*],rfl⟩
theorem Gb (p:UInt8->Bool) (s:ByteArray) (k:Nat) (h:k<s.size) (ha:(s.data.toList.take k).all p=true) (hp:p s[k]=true):(s.data.toList.take (k+1)).all p=true:=by
 rw [d_ s k h,List.all_append,ha];simpa using hp
theorem Rc (p:UInt8->Bool) (s:ByteArray) (k:Nat) (h:k<s.size) (hp:p s[k]=false):s.data.toList.all p=false:=by
 rw [List.all_eq_false];exact ⟨s[k],by simp [ByteArray.getElem_eq_getElem_data],by simp [hp]⟩
theorem Jb (p:UInt8->Bool) (s:ByteArray) (k:Nat) (h:s.size<=k) (ha:(s.data.toList.take k).all p=true):s.data.toList.all p=true:=by
 rwa [List.take_of_length_le (by simpa using h)] at ha
theorem Es (s:ByteArray) (h:¬ (1<=s.size/\s.size<=20)):J2 s.data.toList=false:=by
 unfold J2;have:(decide (1<=s.data.toList.length/\s.data.toList.length<=20))=false:=by
  simp only [decide_eq_false_iff_not];simpa using h
 rw [this];rfl
theorem Gt (s:ByteArray) (h:1<=s.size/\s.size<=20):J2 s.data.toList=s.data.toList.all kg:=by
 unfold J2;have:(decide (1<=s.data.toList.length/\s.data.toList.length<=20))=true:=by
  simp only [decide_eq_true_eq];simpa using h
 rw [this];rfl
theorem c19 (s:ByteArray) (w:World) (hs:s.size<=1048700):
 Calls prog 19 #[.string s] w fun e w'=>e=.returned (.bool (J2 s.data.toList))/\w'=w:=by
 by_cases h:1<=s.size/\s.size<=20;rotate_left
 · have hN:=Q0 (Es s h)
   by_cases h1:1<=s.size
   all_goals
    go_enter func19,ntmps19;go_wp2
    all_goals go_ret
    all_goals exact ⟨Y4 (by rw [hN.out]),rfl⟩
 have hN:=Q0 (Gt s h);obtain ⟨h1,h2⟩:=h;go_enter func19,ntmps19;go_wp2;go_loop [14] (fun i=>∃ k:Nat,k<=s.size/\i=.int .i64 k/\Hid ((s.data.toList.take k).all kg=true)) (fun i=>s.size - (intOf i).toNat)
 case atStart=>exact ⟨0,Nat.zero_le _,rfl,rfl⟩
 obtain ⟨k,hk,rfl,ha⟩:=hrel;by_cases hlt:k<s.size;rotate_left
 · go_wp2
   go_ret;exact ⟨Y4 (by rw [hN.out,Jb _ s k O0 ha.out]),rfl⟩
 by_cases hg:kg s[k]=true
 · have hg':=(qj _).1 hg
   have hn:=Hid.out ha;have ha':=Q0 (Gb _ s k hlt ha.out hg);clear hg hn;go_wp2
   go_round
   case rel=>exact ⟨k+1,O0,by go_num,ha'⟩
   case measure=>simp [intOf];omega
 have hf:=Q0 (Rc _ s k hlt (by simpa using hg));have hg':(s[k].toNat:Int)<33\/126<(s[k].toNat:Int):=by
  rcases Int.lt_or_le (s[k].toNat:Int) 33 with h | h
  · exact .inl h
  rcases Int.lt_or_le 126 (s[k].toNat:Int) with h' | h'
  · exact .inr h'
  exact absurd ((qj _).2 ⟨h,h'⟩) hg
 clear hg;rcases hg' with hg | hg
 all_goals
  go_wp2
  all_goals go_ret
  all_goals exact ⟨Y4 (by rw [hN.out,hf.out]),rfl⟩
theorem c24 (s:ByteArray) (w:World) (hs:s.size<=1048700):
 Calls prog 24 #[.string s] w fun e w'=>e=.returned (.bool (J2 s.data.toList))/\w'=w:=by
 by_cases h:1<=s.size/\s.size<=20;rotate_left
 · have hN:=Q0 (Es s h)
   have hd:decide ((1:Int)<=(s.size:Int)/\(s.size:Int)<=20)=false:=by simp only [decide_eq_false_iff_not];omega
   go_enter func24,ntmps24
   go_wp2_with fail
   refine (vH _ _ _ _).mono ?_;rintro e w' ⟨rfl,rfl⟩;rw [hd];go_wp2;go_ret;exact ⟨Y4 (by rw [hN.out]),rfl⟩
 have hN:=Q0 (Gt s h);have hd:decide ((1:Int)<=(s.size:Int)/\(s.size:Int)<=20)=true:=J4;go_enter func24,ntmps24
 go_wp2_with fail
 refine (vH _ _ _ _).mono ?_;rintro e w' ⟨rfl,rfl⟩;rw [hd];go_wp2;go_loop [3] (fun i=>∃ k:Nat,k<=s.size/\i=.int .i64 k/\Hid ((s.data.toList.take k).all kg=true)) (fun i=>s.size - (intOf i).toNat)
 case atStart=>exact ⟨0,Nat.zero_le _,rfl,rfl⟩
 obtain ⟨k,hk,rfl,ha⟩:=hrel;by_cases hlt:k<s.size;rotate_left
 · go_wp2
   go_ret;exact ⟨Y4 (by rw [hN.out,Jb _ s k O0 ha.out]),rfl⟩
 by_cases hg:kg s[k]=true
 · have hg':=(qj _).1 hg
   have ha':=Q0 (Gb _ s k hlt ha.out hg);clear hg;go_wp2
   go_round
   case rel=>exact ⟨k+1,O0,by go_num,ha'⟩
   case measure=>simp [intOf];omega
 have hf:=Q0 (Rc _ s k hlt (by simpa using hg));have hg':(s[k].toNat:Int)<33\/126<(s[k].toNat:Int):=by
  rcases Int.lt_or_le (s[k].toNat:Int) 33 with h | h
  · exact .inl h
  rcases Int.lt_or_le 126 (s[k].toNat:Int) with h' | h'
  · exact .inr h'
  exact absurd ((qj _).2 ⟨h,h'⟩) hg
 clear hg;rcases hg' with hg | hg
 all_goals
  go_wp2
  all_goals go_ret
  all_goals exact ⟨Y4 (by rw [hN.out,hf.out]),rfl⟩
theorem Od {i j:Nat} (h:i≠j):(⟨B,i,none⟩:Addr)≠⟨B,j,none⟩:=by intro e;injection e with _ e;exact h e
theorem Eu (u:World) (B j:Nat) (v0 v1 x0 x1:Value) (h0:u.cell? ⟨B,j,none⟩=some x0) (h1:u.cell? ⟨B,j+1,none⟩=some x1):
 ((u.setCell ⟨B,j,none⟩ v0).setCell ⟨B,j+1,none⟩ v1).cell? ⟨B,j,none⟩=some v0/\((u.setCell ⟨B,j,none⟩ v0).setCell ⟨B,j+1,none⟩ v1).cell? ⟨B,j+1,none⟩=some v1:=by
 have a1:(u.setCell ⟨B,j,none⟩ v0).cell? ⟨B,j+1,none⟩=some x1:=by rw [World.cell?_setCell_other _ _ _ _ (Od O0)];exact h1
 refine ⟨?_,World.cell?_setCell_same _ _ _ a1⟩;rw [World.cell?_setCell_other _ _ _ _ (Od O0)];exact World.cell?_setCell_same _ _ _ h0
theorem Jl (q:Nat) (h:q<1048577):IntKind.i64.wrap (q:Int)=(q:Int):=by
 have h1:(q:Int) % 2 ^ 64=q:=O0;simp only [IntKind.wrap,IntKind.bits,IntKind.signed,h1];rw [if_neg J4]
def n_ (c:UInt8):Bool:=decide (48<=(c.toNat:Int)/\(c.toNat:Int)<=57)
def UJ (n:Int) (c:UInt8):Int:=n*10+((c.toNat:Int) - 48)
def val (l:List UInt8):Int:=l.foldl UJ 0
theorem Ja (l:List UInt8) (c:UInt8):val (l++[c])=val l*10+((c.toNat:Int) - 48):=by simp [val,UJ]
theorem jb (c:UInt8):n_ c=true↔48<=(c.toNat:Int)/\(c.toNat:Int)<=57:=by simp [n_]
theorem ul {P:List UInt8->Prop} (h0:P []) (h1:∀ l c,P l->P (l++[c])) (l:List UInt8):P l:=by
 have h:∀ r:List UInt8,P r.reverse:=fun r=>by
  induction r with
  | nil=>exact h0
  | cons c r ih=>rw [List.reverse_cons];exact h1 _ _ ih
 have:=h l.reverse
 rwa [List.reverse_reverse] at this
theorem Vk (l:List UInt8):l.all n_=true->0<=val l:=by
 refine ul (P:=fun l=>l.all n_=true->0<=val l) (by simp [val]) (fun l c ih h=>?_) l;rw [List.all_append] at h;simp only [List.all_cons,List.all_nil,Bool.and_true,Bool.and_eq_true] at h;have:=ih h.1;have hc:=(jb c).1 h.2;rw [Ja];omega
def Sc (l:List UInt8):Bool:=!l.isEmpty&&!(l.headD 0==48&&!(l==[48]))
def Q8 (l:List UInt8):Bool:=Sc l&&l.all n_&&decide (val l<=40)
def Ps:Nat->Int->List UInt8
 | 0,_=>[]
 | f+1,n=>if n<10 then [UInt8.ofNat (48+n).toNat] else Ps f (n / 10)++[UInt8.ofNat (48+n % 10).toNat]
def dec (n:Int):List UInt8:=Ps (n.toNat+1) n
theorem PE (f g:Nat) (n:Int) (h0:0<=n) (hf:n.toNat<f) (hg:n.toNat<g):Ps f n=Ps g n:=by
 induction f generalizing g n with
 | zero=>omega
 | succ f ih=>
  cases g with
  | zero=>omega
  | succ g=>
   simp only [Ps];by_cases h:n<10
   · rw [if_pos h,if_pos h]
   rw [if_neg h,if_neg h,ih g (n / 10) O0 O0 O0]
theorem dec_lt (n:Int) (h:n<10):dec n=[UInt8.ofNat (48+n).toNat]:=by simp [dec,Ps,h]
theorem oo (n:Int) (h:10<=n):dec n=dec (n / 10)++[UInt8.ofNat (48+n % 10).toNat]:=by
 unfold dec;rw [Ps,if_neg O0,PE n.toNat ((n / 10).toNat+1) (n / 10) O0 O0 O0]
theorem RF (n:Int):dec n≠[]:=by
 by_cases h:n<10
 · rw [dec_lt n h];simp
 rw [oo n O0];simp
theorem OD (c:UInt8) (h:n_ c=true):UInt8.ofNat (48+((c.toNat:Int) - 48)).toNat=c:=by
 have:=(jb c).1 h;rw [show (48+((c.toNat:Int) - 48)).toNat=c.toNat by omega];exact UInt8.ofNat_toNat
theorem fw (l:List UInt8):l.all n_=true->Sc l=true->dec (val l)=l/\(2<=l.length->10<=val l)/\(l.headD 0≠48->1<=val l):=by
 refine ul (P:=fun l=>l.all n_=true->Sc l=true->dec (val l)=l/\(2<=l.length->10<=val l)/\(l.headD 0≠48->1<=val l)) (by simp [Sc]) (fun l c ih h hl=>?_) l;rw [List.all_append] at h;simp only [List.all_cons,List.all_nil,Bool.and_true,Bool.and_eq_true] at h;have hc:=(jb c).1 h.2;have hd:=OD c h.2
 cases l with
 | nil=>
  have e:val ([]++[c])=(c.toNat:Int) - 48:=by rw [Ja];simp [val]
  rw [e];refine ⟨?_,X0,?_⟩
  · rw [dec_lt _ O0,hd];rfl
  intro h1;simp at h1;have:c.toNat≠48:=fun e=>h1 (by rw [<- UInt8.toNat_inj];exact e);omega
 | cons a r=>
  have ha:a≠48:=by
   intro e;subst e;simp [Sc] at hl
  have hl':Sc (a::r)=true:=by simp [Sc,ha]
  obtain ⟨h1,_,h3⟩:=ih h.1 hl';have h4:=h3 (by simpa using ha);rw [Ja];have hdiv:(val (a::r)*10+((c.toNat:Int) - 48)) / 10=val (a::r):=O0;have hmod:(val (a::r)*10+((c.toNat:Int) - 48)) % 10=(c.toNat:Int) - 48:=O0;refine ⟨?_,fun _=>O0,fun _=>O0⟩;rw [oo _ O0,hdiv,hmod,h1,hd]
theorem Yy (f:Nat) (n:Int) (h0:0<=n) (hf:n.toNat<f):Sc (dec n)=true/\(1<=n->(dec n).headD 0≠48):=by
 induction f generalizing n with
 | zero=>omega
 | succ f ih=>
  by_cases h:n<10
  · rw [dec_lt n h]
    obtain rfl | rfl | rfl | rfl | rfl | rfl | rfl | rfl | rfl | rfl:n=0\/n=1\/n=2\/n=3\/n=4\/n=5\/n=6\/n=7\/n=8\/n=9:=O0
    all_goals decide
  obtain ⟨h1,h2⟩:=ih (n / 10) O0 O0;have h3:=h2 O0;rw [oo n O0];have hne:=RF (n / 10);generalize dec (n / 10)=l at*
  cases l with
  | nil=>exact absurd rfl hne
  | cons a r=>
   have ha:a≠48:=by simpa using h3
   exact ⟨by simp [Sc,ha],fun _=>by simpa using ha⟩
theorem wo (l:List UInt8) (h:l.all n_=true) (hl:Sc l=true) (h40:val l<=40):l.length<=2:=by
 rcases Nat.lt_or_ge 2 l.length with h2 | h2;rotate_left
 · exact h2
 exfalso;rcases List.eq_nil_or_concat l with e | ⟨r,c,e⟩
 · subst e;simp at h2
 rw [List.concat_eq_append] at e;subst e;rw [List.all_append] at h;simp only [List.all_cons,List.all_nil,Bool.and_true,Bool.and_eq_true] at h;have hr:2<=r.length:=by simp at h2;omega
 cases r with
 | nil=>simp at hr
 | cons a r=>
  have ha:a≠48:=by
   intro e;subst e;simp [Sc] at hl
  have:=(fw (a::r) h.1 (by simp [Sc,ha])).2.1 hr;have hc:=(jb c).1 h.2;rw [Ja] at h40;omega
theorem XF (f:Nat) (n:Int):(Ps f n).length<=f:=by
 induction f generalizing n with
 | zero=>simp [Ps]
 | succ f ih=>
  simp only [Ps];by_cases h:n<10
  · rw [if_pos h];simp
  rw [if_neg h];have:=ih (n / 10);simp;omega
theorem tC (n:Int) (h:0<=n) (h1:n<=100000000):(dec n).length<=100000001:=by
 have:=XF (n.toNat+1) n;unfold dec;omega
structure M3 where
 nm:ByteArray
 tl:ByteArray
 ar:ByteArray
def N7:M3:=⟨⟨#[]⟩,⟨#[]⟩,⟨#[]⟩⟩
def M3.v (x:M3):Value:=.agg #[.string x.nm,.string x.tl,.string x.ar]
def M3.le (x:M3) (B:Nat):Prop:=x.nm.size<=B/\x.tl.size<=B/\x.ar.size<=B
theorem Pb (u:World) (B j:Nat) (v0 v1 v2 x0 x1 x2:Value) (h0:u.cell? ⟨B,j,none⟩=some x0) (h1:u.cell? ⟨B,j+1,none⟩=some x1) (h2:u.cell? ⟨B,j+2,none⟩=some x2):
 (((u.setCell ⟨B,j,none⟩ v0).setCell ⟨B,j+1,none⟩ v1).setCell ⟨B,j+2,none⟩ v2).cell? ⟨B,j,none⟩=some v0/\(((u.setCell ⟨B,j,none⟩ v0).setCell ⟨B,j+1,none⟩ v1).setCell ⟨B,j+2,none⟩ v2).cell? ⟨B,j+1,none⟩=some v1/\(((u.setCell ⟨B,j,none⟩ v0).setCell ⟨B,j+1,none⟩ v1).setCell ⟨B,j+2,none⟩ v2).cell? ⟨B,j+2,none⟩=some v2:=by
 have a1:(u.setCell ⟨B,j,none⟩ v0).cell? ⟨B,j+1,none⟩=some x1:=by rw [World.cell?_setCell_other _ _ _ _ (Od O0)];exact h1
 have a2:((u.setCell ⟨B,j,none⟩ v0).setCell ⟨B,j+1,none⟩ v1).cell? ⟨B,j+2,none⟩=some x2:=by
  rw [World.cell?_setCell_other _ _ _ _ (Od O0),World.cell?_setCell_other _ _ _ _ (Od O0)];exact h2
 refine ⟨?_,?_,World.cell?_setCell_same _ _ _ a2⟩
 · rw [World.cell?_setCell_other _ _ _ _ (Od O0),World.cell?_setCell_other _ _ _ _ (Od O0)];exact World.cell?_setCell_same _ _ _ h0
 rw [World.cell?_setCell_other _ _ _ _ (Od O0)];exact World.cell?_setCell_same _ _ _ a1
theorem zx (u:World) (y:Int):(convert 22 9 (.slice (some ⟨u.heap.size,0,none⟩) 1 1)).run prog (u.alloc (.cells #[.int .u8 y] 5))=.ok (.string (strOfNums [y])) (u.alloc (.cells #[.int .u8 y] 5)):=
 run_convert_bytes_arg _ 22 5 underlying22 underlying5 _ 0 1 1 [y] rfl (fun i hi=>by
  obtain rfl:i=0:=O0;simp) 9 underlying9
theorem uE (u:World) (y:Int):(convert 22 9 (.slice (some ⟨u.heap.size,0,none⟩) 1 1)).run prog (u.alloc (.cells #[.int .u8 y] 5)).drew=.ok (.string (strOfNums [y])) (u.alloc (.cells #[.int .u8 y] 5)).drew:=
 run_convert_bytes_arg _ 22 5 underlying22 underlying5 _ 0 1 1 [y] rfl (fun i hi=>by
  obtain rfl:i=0:=O0;simp) 9 underlying9
theorem NF {u w1:World} (hb:Below (u.alloc (.cells #[.int .u8 y] 5)).drew.heap.size (u.alloc (.cells #[.int .u8 y] 5)).drew w1):
 (convert 22 9 (.slice (some ⟨u.heap.size,0,none⟩) 1 1)).run prog w1=.ok (.string (strOfNums [y])) w1:=
 run_convert_bytes_arg _ 22 5 underlying22 underlying5 _ 0 1 1 [y] rfl (fun i hi=>by
  obtain rfl:i=0:=O0;rw [hb.cell X0];simp) 9 underlying9
def Q3 (l:List UInt8):ByteArray:=⟨l.toArray⟩
theorem J3 (l:List UInt8):(Q3 l).size=l.length:=by simp [Q3,ByteArray.size]
def W_ (x:M3):Bool:=J2 x.nm.data.toList&&J2 x.tl.data.toList&&decide ((x.ar.size:Int)<=300)
theorem rQ (x:M3) (w:World) (hs:x.le 1048700):
 Calls prog 98 #[.agg #[.string x.nm,.string x.tl,.string x.ar]] w fun e w'=>e=.returned (.bool (W_ x))/\Below w.heap.size w w':=by
 have HF:Hid (W_ x=(J2 x.nm.data.toList&&J2 x.tl.data.toList&&decide ((x.ar.size:Int)<=300))):=rfl;obtain ⟨h1,h2,h3⟩:=hs;go_enter func98,ntmps98
 go_wp2_with fail
 refine (c24 _ _ h1).mono ?_;rintro e w1 ⟨rfl,rfl⟩;cases hn:J2 x.nm.data.toList
 · rw [hn] at HF
   go_wp2
   all_goals go_ret
   all_goals exact ⟨Y4 (by rw [HF.out];simp),bA⟩
 rw [hn] at HF
 go_wp2_with fail
 refine (c24 _ _ h2).mono ?_;rintro e w1 ⟨rfl,rfl⟩;cases hm:J2 x.tl.data.toList
 all_goals
  rw [hm] at HF;go_wp2
  all_goals go_ret
  all_goals exact ⟨Y4 (by rw [HF.out];simp),bA⟩
theorem Ju {x:M3} {v:Bool} (hv:W_ x=v) (w:World) (hs:x.le 1048700):
 Calls prog 98 #[.agg #[.string x.nm,.string x.tl,.string x.ar]] w fun e w'=>e=.returned (.bool v)/\Below w.heap.size w w':=hv▸rQ x w hs
def cst (b:UInt8) (p:List (List UInt8)×List UInt8) (c:UInt8):List (List UInt8)×List UInt8:=if c=b then (p.1++[p.2],[]) else (p.1,p.2++[c])
def M5 (b:UInt8) (l:List UInt8):List (List UInt8)×List UInt8:=l.foldl (cst b) ([],[])
def E8 (b:UInt8) (l:List UInt8):List (List UInt8):=(M5 b l).1++[(M5 b l).2]
theorem vo (b:UInt8) (l:List UInt8) (c:UInt8):M5 b (l++[c])=cst b (M5 b l) c:=by simp [M5]
theorem Nz (b:UInt8) (l:List UInt8) (p:List (List UInt8)×List UInt8):(l.foldl (cst b) p).1.length<=p.1.length+l.length:=by
 induction l generalizing p with
 | nil=>simp
 | cons c l ih=>
  have:=ih (cst b p c);have h2:(cst b p c).1.length<=p.1.length+1:=by unfold cst;split <;> simp
  simp only [List.foldl_cons,List.length_cons];omega
theorem ko (b:UInt8) (l:List UInt8):(M5 b l).1.length<=l.length:=by have:=Nz b l ([],[]);simpa [M5] using this
def Ll (ss:List (List UInt8)):List Value:=ss.map fun l=>.string (Q3 l)
theorem Df (ss:List (List UInt8)) (l:List UInt8):Ll (ss++[l])=Ll ss++[.string (Q3 l)]:=by simp [Ll]
def K7 (w:World) (g:Nat) (ss:List (List UInt8)):Prop:=g<w.heap.size/\∀ i,i<ss.length->w.cell? ⟨g,i,none⟩=some (.string (Q3 (ss.getD i [])))
theorem je {base cp:Nat} (h:w.ownsRow base 9 1 (.slice (some ⟨g,0,none⟩) k cp) k (Ll ss)) (hl:ss.length=k):K7 w g ss:=by
 refine ⟨(h.lt g rfl).2,fun i hi=>?_⟩;rw [h.cellAt i O0];simp [Ll,hi]
theorem uB:(prog.info? 9).map (fun i=>(i.zero,i.size,i.bytes))=some (some (.string ⟨#[]⟩),1,16):=U2
theorem v_ (h:s.data.toList=l):s=Q3 l:=by
 apply ByteArray.ext;unfold Q3;rw [<- h]
def O1 (l:List UInt8):List UInt8:=l.takeWhile (· !=32)
def I1 (l:List UInt8):List UInt8:=(l.dropWhile (· !=32)).drop 1
theorem Kh (ha:(l.take k).all (· !=32)=true) (_hk:k<=l.length) (he:k=l.length\/l.getD k 0=32):O1 l=l.take k/\I1 l=l.drop (k+1):=by
 have h:l.takeWhile (· !=32)=l.take k/\l.dropWhile (· !=32)=l.drop k:=by
  rcases Nat.lt_or_ge k l.length with hlt | hge;rotate_left
  · rw [List.take_of_length_le hge] at ha
    rw [List.take_of_length_le hge,List.drop_of_length_le hge];have hall:∀ a∈l,(a !=32)=true:=fun a h=>List.all_eq_true.1 ha a h;have:=List.takeWhile_append_of_pos (l₂:=[]) hall;have h2:=List.dropWhile_append_of_pos (l₂:=[]) hall;simp only [List.append_nil,List.takeWhile_nil,List.dropWhile_nil] at this h2;exact ⟨this,h2⟩
  have hx:l[k]=32:=by
   rcases he with he | he
   · omega
   simpa [hlt] using he
  have hsplit:l=l.take k++l[k]::l.drop (k+1):=by rw [<- List.drop_eq_getElem_cons hlt,List.take_append_drop]
  have hall:∀ a∈l.take k,(a !=32)=true:=fun a h=>List.all_eq_true.1 ha a h;constructor
  · conv=>lhs;rw [hsplit]
    rw [List.takeWhile_append_of_pos hall,hx];simp
  conv=>lhs;rw [hsplit]
  rw [List.dropWhile_append_of_pos hall,hx];rw [List.drop_eq_getElem_cons hlt,hx];simp
 refine ⟨h.1,?_⟩;unfold I1;rw [h.2,List.drop_drop]
theorem Fp (a b:List UInt8):Q3 a++Q3 b=Q3 (a++b):=by apply ByteArray.ext;simp [Q3]
theorem Pp (c:UInt8):(⟨#[c]⟩:ByteArray)=Q3 [c]:=rfl
theorem Og (h:(32:UInt8)∉l):O1 l=l/\I1 l=[]:=by
 have:=Kh (l:=l) (k:=l.length) (by rw [List.take_length,List.all_eq_true];intro a ha;simp only [bne_iff_ne];intro e;exact h (e▸ha)) P9 (.inl rfl);rw [List.take_length,List.drop_of_length_le O0] at this;exact this
theorem Y5 (h:(32:UInt8)∉a):O1 (a++32::r)=a/\I1 (a++32::r)=r:=by
 have:=Kh (l:=a++32::r) (k:=a.length) (by rw [List.take_left,List.all_eq_true];intro x ha;simp only [bne_iff_ne];intro e;exact h (e▸ha)) X0 (.inr X0);rw [List.take_left] at this;refine ⟨this.1,this.2.trans ?_⟩;rw [<- List.drop_drop,List.drop_left];rfl
theorem Y9 (h:(32:UInt8)∈l):l=O1 l++32::I1 l/\(32:UInt8)∉O1 l:=by
 obtain ⟨a,r,rfl,ha⟩:=List.eq_append_cons_of_mem h;obtain ⟨h1,h2⟩:=Y5 (r:=r) ha;rw [h1,h2];exact ⟨rfl,ha⟩
theorem Ip (l:List UInt8):(Lib.index l [32]=-1/\(32:UInt8)∉l)\/(∃ i:Nat,Lib.index l [32]=i/\(32:UInt8)∈l/\l.take i=O1 l/\l.drop (i+1)=I1 l):=by
 rw [Lib.index_one];have hge:=Lib.indexByte_ge l 32;by_cases h:Lib.indexByte l 32=-1
 · refine .inl ⟨h,fun hm=>?_⟩
   obtain ⟨k,hk,e⟩:=List.getElem_of_mem hm;exact Lib.indexByte_none h k (by rw [List.getElem?_eq_getElem hk,e])
 obtain ⟨o,ho⟩:∃ o:Nat,Lib.indexByte l 32=o:=⟨(Lib.indexByte l 32).toNat,O0⟩;obtain ⟨h1,h2⟩:=Lib.indexByte_some ho;have hl:o<l.length:=by
  rcases Nat.lt_or_ge o l.length with h | h
  · exact h
  rw [List.getElem?_eq_none h] at h1;cases h1
 have hm:=List.mem_of_getElem? h1;have:=Kh (l:=l) (k:=o) (by
  rw [List.all_eq_true];intro x hx;simp only [bne_iff_ne];rintro rfl;obtain ⟨k,hk,e⟩:=List.getElem_of_mem hx;rw [List.length_take] at hk;rw [List.getElem_take] at e;exact h2 k O0 (by rw [List.getElem?_eq_getElem O0,e])) O0 (.inr (by simp [List.getD,h1]))
 exact .inr ⟨o,ho,hm,this.1.symm,this.2.symm⟩
theorem QG (l:List UInt8):(Lib.cut l [32]).1=O1 l:=by
 unfold Lib.cut;rcases Ip l with ⟨h,hn⟩ | ⟨i,h,_,h1,_⟩
 · rw [h,if_neg O0,(Og hn).1]
 rw [h,if_pos O0];exact h1
def U6 (l:List UInt8) (n:Nat):List (List UInt8):=Lib.splitK [32] 0 n l
theorem Ld (l:List UInt8):U6 l 0=[l]:=rfl
theorem R_ (n:Nat) (h:(32:UInt8)∉l):U6 l n=[l]:=by
 cases n with
 | zero=>rfl
 | succ n=>
  unfold U6 Lib.splitK;rcases Ip l with ⟨h',_⟩ | ⟨i,_,hm,_⟩
  · rw [h'];rfl
  exact absurd hm h
theorem T_ (n:Nat) (h:(32:UInt8)∈l):U6 l (n+1)=O1 l::U6 (I1 l) n:=by
 unfold U6;rw [Lib.splitK];rcases Ip l with ⟨_,hn⟩ | ⟨i,hi,_,h1,h2⟩
 · exact absurd h hn
 rw [hi,if_neg X0];simp only [Int.toNat_natCast,Nat.add_zero,List.length_singleton,h1,h2]
theorem Dp {b q:List UInt8} (ha:(10:UInt8)∉a) (hb:(10:UInt8)∉b) (h:a++10::r=b++10::q):a=b/\r=q:=by
 induction a generalizing b with
 | nil=>
  cases b with
  | nil=>simpa using h
  | cons c b=>simp at h;exact absurd (by rw [h.1];simp) hb
 | cons d a ih=>
  cases b with
  | nil=>simp at h;exact absurd (by rw [h.1];simp) ha
  | cons c b=>
   simp only [List.cons_append,List.cons.injEq] at h;obtain ⟨h1,h2⟩:=ih (fun h=>ha (List.mem_cons_of_mem _ h)) (fun h=>hb (List.mem_cons_of_mem _ h)) h.2;exact ⟨by rw [h.1,h1],h2⟩
theorem Pn {a:ByteArray} (h:a.data.toList=b.data.toList):a=b:=ByteArray.ext (Array.toList_inj.1 h)
theorem vF (l:List UInt8):((Lib.cut l [10]).2.2=true/\l=(Lib.cut l [10]).1++10::(Lib.cut l [10]).2.1/\(10:UInt8)∉(Lib.cut l [10]).1)\/((Lib.cut l [10]).2.2=false/\(Lib.cut l [10]).1=l/\(10:UInt8)∉l):=by
 unfold Lib.cut;rw [Lib.index_one];have hge:=Lib.indexByte_ge l 10;by_cases h:Lib.indexByte l 10=-1
 · rw [h,if_neg O0]
   refine .inr ⟨rfl,rfl,fun hm=>?_⟩;obtain ⟨k,hk,e⟩:=List.getElem_of_mem hm;exact Lib.indexByte_none h k (by rw [List.getElem?_eq_getElem hk,e])
 obtain ⟨o,ho⟩:∃ o:Nat,Lib.indexByte l 10=o:=⟨(Lib.indexByte l 10).toNat,O0⟩;obtain ⟨h1,h2⟩:=Lib.indexByte_some ho;have hl:o<l.length:=by
  rcases Nat.lt_or_ge o l.length with h | h
  · exact h
  rw [List.getElem?_eq_none h] at h1;cases h1
 rw [ho,if_pos O0];refine .inl ⟨rfl,?_,fun hm=>?_⟩
 · simp only [Int.toNat_natCast,List.length_singleton]
   have hx:l[o]=10:=by rw [List.getElem?_eq_getElem hl] at h1;exact Option.some.inj h1
   conv=>lhs;rw [<- List.take_append_drop o l,List.drop_eq_getElem_cons hl,hx]
 simp only [Int.toNat_natCast] at hm;obtain ⟨k,hk,e⟩:=List.getElem_of_mem hm;rw [List.length_take] at hk;rw [List.getElem_take] at e;exact h2 k O0 (by rw [List.getElem?_eq_getElem O0,e])
theorem Dw (p:List (List UInt8)×List UInt8) (a:List UInt8) (h:(10:UInt8)∉a):(a++[10]).foldl (cst 10) p=(p.1++[p.2++a],[]):=by
 induction a generalizing p with
 | nil=>simp [cst]
 | cons c a ih=>
  have hc:c≠10:=fun e=>h (by rw [e];simp);rw [List.cons_append,List.foldl_cons,ih _ (fun h'=>h (List.mem_cons_of_mem _ h'))];simp [cst,hc]
theorem ED (b:UInt8) (l:List UInt8) (p:List (List UInt8)×List UInt8) (N:Nat) (h1:∀ x∈p.1,x.length<=N) (h2:p.2.length+l.length<=N):(∀ x∈(l.foldl (cst b) p).1,x.length<=N)/\(l.foldl (cst b) p).2.length<=N:=by
 induction l generalizing p with
 | nil=>exact ⟨h1,by simpa using h2⟩
 | cons c l ih=>
  rw [List.foldl_cons];apply ih
  · unfold cst;split
    · intro x hx
      rcases List.mem_append.1 hx with h | h
      · exact h1 x h
      simp at h;subst h;simp at h2;omega
    exact h1
  simp only [List.length_cons] at h2;unfold cst;split
  · simp;omega
  simp;omega
theorem zn (b:UInt8) (l:List UInt8) (k:Nat):((E8 b l).getD k []).length<=l.length:=by
 obtain ⟨h1,h2⟩:=ED b l ([],[]) l.length X0 X0;have h:∀ x∈E8 b l,x.length<=l.length:=by
  intro x hx;unfold E8 M5 at hx;rcases List.mem_append.1 hx with h | h
  · exact h1 x h
  simp at h;subst h;exact h2
 rcases Nat.lt_or_ge k (E8 b l).length with hk | hk
 · rw [List.getD,List.getElem?_eq_getElem hk];exact h _ (List.getElem_mem hk)
 rw [List.getD,List.getElem?_eq_none hk];simp
theorem Np (b:UInt8) (l:List UInt8):1<=(E8 b l).length/\(E8 b l).length<=l.length+1:=by
 have:=ko b l;unfold E8;rw [List.length_append,List.length_singleton];omega
theorem Qn (l:List UInt8):Sc l=true↔l≠[]/\(l.headD 0=48->l=[48]):=by
 cases l with
 | nil=>simp [Sc]
 | cons a r=>
  by_cases h:a=48
  · simp [Sc,h]
  simp [Sc,h]
theorem yu (h1:Sc l=true) (h2:l.all n_=true) (h3:val l<=40):Q8 l=true:=by
 have hd:decide (val l<=40)=true:=by simpa using h3
 simp only [Q8,h1,h2,hd,Bool.and_self]
theorem Hq (c:UInt8) (h:48<=(c.toNat:Int)/\(c.toNat:Int)<=57):IntKind.u8.wrap ((c.toNat:Int) - 48)=(c.toNat:Int) - 48:=by
 simp [IntKind.wrap,IntKind.signed,IntKind.bits];omega
def n29 (l:List UInt8):Int:=if (1<=l.length/\l.length<=7)/\l.all n_=true/\dec (val l)=l then val l else -1
theorem oC (h:¬ (1<=l.length/\l.length<=7)):n29 l=-1:=by unfold n29;rw [if_neg (fun x=>h x.1)]
theorem FB (h:l.all n_=false):n29 l=-1:=by unfold n29;rw [if_neg (fun x=>by rw [h] at x;cases x.2.1)]
theorem gB (h:dec (val l)≠l):n29 l=-1:=by unfold n29;rw [if_neg (fun x=>h x.2.2)]
theorem Ep (h:1<=l.length/\l.length<=7) (h2:l.all n_=true) (h3:dec (val l)=l):n29 l=val l:=by unfold n29;rw [if_pos ⟨h,h2,h3⟩]
theorem Ut (l:List UInt8):decide (0<=n29 l/\n29 l<=40)=Q8 l:=by
 by_cases h:Q8 l=true
 · rw [h]
   have h':=h;simp only [Q8,Bool.and_eq_true,decide_eq_true_eq] at h';obtain ⟨⟨h1,h2⟩,h3⟩:=h';have hl:=wo l h2 h1 h3;have hne:=((Qn l).1 h1).1;have h1':1<=l.length:=List.length_pos_iff.2 hne;rw [Ep ⟨h1',O0⟩ h2 (fw l h2 h1).1];have:=Vk l h2;simp only [decide_eq_true_eq];omega
 have h':Q8 l=false:=by simpa using h
 rw [h'];simp only [decide_eq_false_iff_not];intro ⟨a,b⟩;unfold n29 at a b;by_cases c:(1<=l.length/\l.length<=7)/\l.all n_=true/\dec (val l)=l
 · rw [if_pos c] at a b
   have hd:=(Yy ((val l).toNat+1) (val l) a O0).1;rw [c.2.2] at hd;rw [yu hd c.2.1 b] at h';cases h'
 rw [if_neg c] at a;omega
theorem YC (l:List UInt8) (h:l.all n_=true):val l<10 ^ l.length:=by
 revert h;refine ul (P:=fun l=>l.all n_=true->val l<10 ^ l.length) (by simp [val]) (fun l c ih h=>?_) l;rw [List.all_append] at h;simp only [List.all_cons,List.all_nil,Bool.and_true,Bool.and_eq_true] at h;have:=ih h.1;have hc:=(jb c).1 h.2;rw [Ja,List.length_append,List.length_singleton,Int.pow_succ];omega
theorem Mt (l:List UInt8) (h:l.all n_=true) (hl:l.length<=7):val l<=10000000:=by
 have h1:=YC l h;have h2:(10:Int) ^ l.length<=10 ^ 7:=by exact_mod_cast Nat.pow_le_pow_right O0 hl
 omega
def Z9 (w:World):Prop:=1<w.heap.size/\∃ m,w.cell? ⟨1,0,none⟩=some (.int .i64 m)
theorem f_ {w':World} (h:Z9 w) (hb:Below w.heap.size w w'):Z9 w':=by
 obtain ⟨h1,m,hm⟩:=h;exact ⟨Nat.lt_of_lt_of_le h1 hb.size,m,by rw [hb.cell (by exact h1)];exact hm⟩
theorem below_drewN (n:Nat):Below w.heap.size w (w.drewN n):=⟨rfl,rfl,rfl,Nat.le_refl _,fun _ _=>rfl⟩
theorem Zu {ss:List ByteArray} (h:ss.map (·.data.toList)=ls):ss=ls.map Q3:=by
 rw [<- h,List.map_map]
 conv=>lhs;rw [<- List.map_id ss]
 refine List.map_congr_left fun s _=>?_;exact v_ rfl
theorem past {v:Value} (hp:p.block<w.heap.size) (h:w.cell? p=some v) (o:Obj):(w.alloc o).cell? p=some v:=by
 rw [((Below.refl w.heap.size w).alloc P9 o).cell hp];exact h
theorem Mc (hp:p.block<w.heap.size) (h:w.frozen? p=false) (o:Obj):(w.alloc o).frozen? p=false:=by
 rw [((Below.refl w.heap.size w).alloc P9 o).frozen hp];exact h
theorem FM (w:World) (x y z:Value) (t:TypeId):∀ j u,[x,y,z][j]?=some u->(w.alloc (.cells #[x,y,z] t)).cell? ((⟨w.heap.size,0,none⟩:Addr).add j)=some u:=by
 intro j u h
 match j,h with
 | 0,h=>simp at h;subst h;simp [Addr.add]
 | 1,h=>simp at h;subst h;simp [Addr.add]
 | 2,h=>simp at h;subst h;simp [Addr.add]
theorem Vh (hg:g=w.heap.size) (x y z:Value) (t:TypeId):∀ j u,[x,y,z][j]?=some u->(w.alloc (.cells #[x,y,z] t)).cell? ((⟨g,0,none⟩:Addr).add j)=some u:=by
 subst hg;exact FM w x y z t
theorem E9 {v:Value} (h:w.ownsRow B e 3 v n xs):∃ ao c,v=.slice ao n c:=by
 rcases h.2 with ⟨hv,h0⟩ | ⟨g,cap,cur,hv,_⟩
 · exact ⟨none,0,by rw [hv,h0]⟩
 exact ⟨_,_,hv⟩
theorem D5 {B':Nat} {v:Value} (h:w.ownsRow B e size v n xs) (hB:B'<=B):w.ownsRow B' e size v n xs:=by
 refine ⟨h.1,?_⟩;rcases h.2 with h2 | ⟨g,cap,cur,hv,hg,r⟩
 · exact .inl h2
 exact .inr ⟨g,cap,cur,hv,O0,r⟩
def strOf:Value->Nat | .string s=>s.size | _=>0
theorem Hw (s:ByteArray):Q3 s.data.toList=s:=(v_ rfl).symm
def vr (c:Int) (l:List UInt8):Bool:=
 if c=0\/c=1 then decide (l.length<=300) else if c=2 then Q8 l else if c=3 then l.isEmpty else if c=4\/c=5\/c=7 then J2 l else false
theorem VD (h:Q8 l=true):l.length<=2:=by
 simp only [Q8,Bool.and_eq_true,decide_eq_true_eq] at h;exact wo l h.1.2 h.1.1 h.2
theorem Rv (h:300<l.length):vr c l=false:=by
 have h1:decide (l.length<=300)=false:=by simp only [decide_eq_false_iff_not];omega
 have h2:Q8 l=false:=by
  by_cases h2:Q8 l=true
  · have:=VD h2;omega
  simpa using h2
 have h3:l.isEmpty=false:=by cases l with | nil=>simp at h | cons a r=>rfl
 have h4:J2 l=false:=by
  unfold J2;have:decide (1<=l.length/\l.length<=20)=false:=by simp only [decide_eq_false_iff_not];omega
  rw [this];rfl
 unfold vr;rw [h1,h2,h3,h4];split <;> (try rfl)
 split <;> (try rfl)
 split <;> (try rfl)
 split <;> rfl
end Go.Proofs.YtdjaajjndfbpmaaGreatDoor
namespace Go.Proofs.YtdjaajjndfbpmaaGreatDoor
open Go.RowKit
structure I3 where
 op:Int
 tx:ByteArray
 to:Int
def A_:I3:=⟨0,⟨#[]⟩,0⟩
def I3.v (x:I3):Value:=.agg #[.int .i64 x.op,.string x.tx,.int .i64 x.to]
def Da (w:World) (a:Option Addr) (is:List I3):Prop:=
 is=[]\/∃ b off,a=some ⟨b,off,none⟩/\b<w.heap.size/\∀ i,i<is.length->w.cell? ⟨b,off+i*3,none⟩=some (.int .i64 (is.getD i A_).op)/\w.cell? ⟨b,off+i*3+1,none⟩=some (.string (is.getD i A_).tx)/\w.cell? ⟨b,off+i*3+2,none⟩=some (.int .i64 (is.getD i A_).to)
theorem Zk {w:World} {a:Option Addr} {is:List I3} (h:Da w a is):∃ b c,(is=[]\/(a=some ⟨b,c,none⟩/\b<w.heap.size/\∀ i,i<is.length->w.cell? ⟨b,c+i*3,none⟩=some (.int .i64 (is.getD i A_).op)/\w.cell? ⟨b,c+i*3+1,none⟩=some (.string (is.getD i A_).tx)/\w.cell? ⟨b,c+i*3+2,none⟩=some (.int .i64 (is.getD i A_).to))):=by
 rcases h with h | ⟨b,c,h⟩
 · exact ⟨0,0,.inl h⟩
 exact ⟨b,c,.inr h⟩
theorem Va {w w':World} {a:Option Addr} {is:List I3} (h:Da w a is) (c:Below w.heap.size w w'):Da w' a is:=by
 rcases h with h | ⟨b,d,h1,h2,h3⟩
 · exact .inl h
 exact .inr ⟨b,d,h1,D7 h2 c.size,fun i e=>by rw [c.cell (by exact h2),c.cell (by exact h2),c.cell (by exact h2)];exact h3 i e⟩
theorem Qo {is:List I3} {B:Nat} (h:∀ i,i<is.length->(is.getD i A_).tx.size<=B) (i:Nat):(is.getD i A_).tx.size<=B:=by
 rcases U5 i is.length with a | a
 · exact h i a
 have e:is.getD i A_=A_:=by simp [List.getD,Xe a]
 rw [e];exact I5 _
theorem Rp:(Tryz.prog.info? 165).map (fun i=>(i.zero,i.size,i.bytes))=some (some (.agg #[.int .i64 0,.string ⟨#[]⟩,.int .i64 0]),3,32):=U2
end Go.Proofs.YtdjaajjndfbpmaaGreatDoor
namespace Go.Proofs.YtdjaajjndfbpmaaGreatDoor.M
open Go.RowKit
end Go.Proofs.YtdjaajjndfbpmaaGreatDoor.M
namespace Go.Proofs.YtdjaajjndfbpmaaGreatDoor
open Proofs.Tryz
open Go.RowKit
variable {w:World} {B b base n size:Nat} {o:Obj} {e:TypeId} {v:Value} {xs:List Value}
theorem zu:(prog.info? 223).map (fun i=>i.size)=some 2:=U2
theorem info5:(prog.info? 5).map (fun i=>(i.zero,i.size,i.bytes))=some (some (.int .u8 0),1,1):=U2
theorem oJ:liesAt prog prog.depth 223 (2 / prog.cellsOf 223) 0 223 1=true:=U2
theorem mq (b:Nat) (w:World) (h0:w.cell? ⟨b,0,none⟩=some (.pointer (some ⟨b,0,none⟩))):
 Calls prog 191 #[.pointer (some ⟨b,0,none⟩)] w fun e w'=>e=.returned (.tuple #[])/\w'=w:=by
 obtain ⟨j,a,_⟩:=Uo.1 zu;have kn:=Lib.run_neq_ptr_same (P:=prog) w ⟨b,0,none⟩ underlying221 a;go_enter func191,ntmps191;go_wp2
 go_end0
 exact ⟨rfl,rfl⟩
theorem Px (b:Nat) (w:World) (h0:w.cell? ⟨b,0,none⟩=some (.pointer none)) (a:w.shape? b=some (223,2)) (hfz:w.frozen? ⟨b,0,none⟩=false):
 Calls prog 191 #[.pointer (some ⟨b,0,none⟩)] w fun e w'=>e=.returned (.tuple #[])/\w'=w.setCell ⟨b,0,none⟩ (.pointer (some ⟨b,0,none⟩)):=by
 obtain ⟨j,c,d⟩:=Uo.1 zu;have k1:=Lib.run_to_unsafe (P:=prog) w ⟨b,0,none⟩ underlying221 underlying200 c (by rw [d];decide) a (Nat.zero_lt_succ 1);have k3:=Lib.run_from_unsafe (P:=prog) w ⟨b,0,none⟩ underlying200 underlying221 c a oJ;have k2:∀ x,Sem.run prog (callFunc 201 #[x]) w=.ok (.value x) w:=fun x=>by
  rw [Tu func201 U2 U2 U2 (e:=Extern.AbiNoEscape.same) U2];rw [Lib.run_noEscape];rfl
 go_enter func191,ntmps191;go_wp2
 go_end0
 exact ⟨rfl,rfl⟩
theorem rP (B b:Nat) (a:List Value) (w:World) (h:Lib.IsBuilder 223 5 B b a w):
 Calls prog 191 #[.pointer (some ⟨b,0,none⟩)] w fun e w'=>e=.returned (.tuple #[])/\Lib.BuilderAt 223 5 B b (.pointer (some ⟨b,0,none⟩)) a w'/\Below B w w'/\w'.heap.size=w.heap.size:=by
 rcases h with h | h
 · refine (Px b w h.cell0 h.shape h.frozen0).mono ?_
   rintro e w' ⟨rfl,rfl⟩;exact ⟨rfl,h.used _,(F4 B w).setCell (p:=⟨b,0,none⟩) h.1 _,X0⟩
 refine (mq b w h.cell0).mono ?_;rintro e w' ⟨rfl,rfl⟩;exact ⟨rfl,h,F4 B _,rfl⟩
theorem Q4 (h:w.heap[b]?=some o):b<w.heap.size:=by
 rcases U5 b w.heap.size with a | a
 · exact a
 simp [Yj a] at h
theorem Nq (h:w.ownsRow B e 1 v n xs):∃ a c,v=.slice a n c:=by
 rcases h.2 with ⟨hv,h0⟩ | ⟨g,cap,cur,hv,_⟩
 · exact ⟨none,0,by rw [hv,h0]⟩
 exact ⟨_,_,hv⟩
theorem Ud {w1 a:World} (c:w1.heap[b]?=some o) (d:v.ownBlock≠some b) (f:w1.grownBy a v.ownBlock):a.heap[b]?=some o:=by
 rw [f.block b (Q4 c) (fun e=>d e.symm)];exact c
theorem c171 (B b:Nat) (a:List Value) (c:Int) (w:World) (h:Lib.IsBuilder 223 5 B b a w) (hlen:a.length+1<=140737488355328) (hBw:B<=w.heap.size):
 Calls prog 171 #[.pointer (some ⟨b,0,none⟩),.int .u8 c] w fun e w'=>e=.returned .nilIface/\Lib.IsBuilder 223 5 B b (a++[.int .u8 c]) w'/\Below B w w':=by
 obtain ⟨q,z,t,s,r⟩:=Ze info5;have E:=Q0 h;clear h;go_enter func171,ntmps171
 go_wp2_with fail
 refine (rP B b a w E.out).mono ?_;rintro e w1 ⟨rfl,h1,A,x⟩;obtain ⟨hB,v,g,m,n⟩:=h1;have C:B<=w1.heap.size:=O0;have o:=Q0 g;have D:=Q0 n;have c1:w1.cell? ⟨b,1,none⟩=some v:=by rw [Z5 g];rfl
 clear g n x
 go_wp2_with (at_builtin;refine wpList_append_own _ rfl _ _ 22 rfl B 5 q (.int .u8 0) 1 1 underlying22 z t s r rfl K3 _ _ _ rfl (m.alloc _) ⟨w1.heap.size,0,none⟩ 1 1 [.int .u8 c] rfl rfl (cell_one_new _ _ _) (by intro u j;simp at j;subst j;rfl) (by unfold maxLen;omega) O0 J4 ?_;intro v' d l f _;have i:Hid (d.heap[b]?=some (.cells #[.pointer (some ⟨b,0,none⟩),v] 223 (0,0))):=Ud (v:=v) (by rw [Below.heap_alloc w1 _ b (Q4 o.out)];exact o.out) D.out f;have F:Hid (Below B w d):=(A.alloc C _).grown f J4 (fun k y=>(m.lt k y).1);obtain ⟨ao,cp,rfl⟩:=Nq l;have d1:d.cell? ⟨b,1,none⟩=some v:=(by rw [Lib.cell_of_heap i.out];rfl);have f1:d.frozen? ⟨b,1,none⟩=false:=Lib.frozen_of_heap i.out 1;clear f)
 go_ret;refine ⟨rfl,.inr ?_,?_⟩
 · exact Lib.BuilderAt.put (T:=223) (e:=5) hB i.out (bs':=a++[.int .u8 c]) (by simpa using l) K3
 exact F.out.setCell (p:=⟨b,1,none⟩) hB _
theorem ownsRow_below {w':World} (h:w.ownsRow base e size v n xs) (d:Below w.heap.size w w'):w'.ownsRow base e size v n xs:=by
 obtain ⟨h1,h2⟩:=h;refine ⟨h1,?_⟩;rcases h2 with h | ⟨g,cap,cur,hv,c,a,b⟩
 · exact .inl h
 exact .inr ⟨g,cap,cur,hv,c,by rw [d.block g (Q4 a)];exact a,b⟩
def A9 (c:UInt8):Bool:=decide (32<=(c.toNat:Int))&&decide ((c.toNat:Int)<=126)&&!((c.toNat:Int)==34)&&!((c.toNat:Int)==92)
theorem ae {a b:ByteArray} (h:a=b):Ending.returned (.string a)=.returned (.string b):=by rw [h]
theorem RN (c:UInt8) (w:World):
 Calls prog 170 #[.int .u8 c.toNat] w fun e w'=>e=.returned (.bool (A9 c))/\w'=w:=by
 go_enter func170,ntmps170;go_wp2
 all_goals go_ret
 all_goals refine ⟨Y4 ?_,rfl⟩
 all_goals unfold A9
 all_goals simp [*]
 all_goals first | omega | skip
 all_goals (try (simp only [bne]))
def Cb:List UInt8:=[48,49,50,51,52,53,54,55,56,57,97,98,99,100,101,102]
def Dy:ByteArray:=⟨#[48,49,50,51,52,53,54,55,56,57,97,98,99,100,101,102]⟩
theorem OB (n:Nat) (h:n<Dy.size):Dy[n]=Cb.getD n 0:=by
 have h':n<16:=h;obtain rfl | rfl | rfl | rfl | rfl | rfl | rfl | rfl | rfl | rfl | rfl | rfl | rfl | rfl | rfl | rfl:n=0\/n=1\/n=2\/n=3\/n=4\/n=5\/n=6\/n=7\/n=8\/n=9\/n=10\/n=11\/n=12\/n=13\/n=14\/n=15:=O0
 all_goals rfl
def qb (c:UInt8):List UInt8:=if A9 c=true then [c] else [92,Cb.getD (c.toNat / 16) 0,Cb.getD (c.toNat % 16) 0]
def V4 (l:List UInt8):List UInt8:=34::(l.flatMap qb++[34])
theorem KL (c:UInt8):(qb c).length<=3:=by unfold qb;split <;> simp
theorem Vw (l:List UInt8):(l.flatMap qb).length<=3*l.length:=by
 induction l with
 | nil=>simp
 | cons c l ih=>have:=KL c;simp only [Qe,Q7,u_];omega
theorem Ym (l:List UInt8):(V4 l).length<=3*l.length+2:=by
 have:=Vw l;unfold V4;simp only [List.length_cons,List.length_append,List.length_nil];omega
theorem t_ (l r:List UInt8):Lib.byteCells (l++r)=Lib.byteCells l++Lib.byteCells r:=by simp [Lib.byteCells]
theorem Vm (l:List UInt8):(Lib.byteCells l).length=l.length:=by simp [Lib.byteCells]
end Go.Proofs.YtdjaajjndfbpmaaGreatDoor
namespace Go.Proofs.YtdjaajjndfbpmaaGreatDoor.M
open Go.RowKit
structure L4 where
 has:Bool
 nm:ByteArray
 cd:Int
 tx:ByteArray
def Ga:L4:=⟨false,⟨#[]⟩,0,⟨#[]⟩⟩
def L4.le (x:L4) (B:Nat):Prop:=x.nm.size<=B/\x.tx.size<=B
def Ac (w:World) (a:Option Addr) (is:List L4):Prop:=
 is=[]\/∃ b off,a=some ⟨b,off,none⟩/\b<w.heap.size/\∀ i,i<is.length->w.cell? ⟨b,off+i*4,none⟩=some (.bool (is.getD i Ga).has)/\w.cell? ⟨b,off+i*4+1,none⟩=some (.string (is.getD i Ga).nm)/\w.cell? ⟨b,off+i*4+2,none⟩=some (.int .i64 (is.getD i Ga).cd)/\w.cell? ⟨b,off+i*4+3,none⟩=some (.string (is.getD i Ga).tx)
theorem Py {w:World} {a:Option Addr} {is:List L4} (h:Ac w a is):∃ b c,(is=[]\/(a=some ⟨b,c,none⟩/\b<w.heap.size/\∀ i,i<is.length->w.cell? ⟨b,c+i*4,none⟩=some (.bool (is.getD i Ga).has)/\w.cell? ⟨b,c+i*4+1,none⟩=some (.string (is.getD i Ga).nm)/\w.cell? ⟨b,c+i*4+2,none⟩=some (.int .i64 (is.getD i Ga).cd)/\w.cell? ⟨b,c+i*4+3,none⟩=some (.string (is.getD i Ga).tx))):=by
 rcases h with h | ⟨b,c,h⟩
 · exact ⟨0,0,.inl h⟩
 exact ⟨b,c,.inr h⟩
theorem Y_ {w w':World} {a:Option Addr} {is:List L4} (h:Ac w a is) (c:Below w.heap.size w w'):Ac w' a is:=by
 rcases h with h | ⟨b,d,h1,h2,h3⟩
 · exact .inl h
 exact .inr ⟨b,d,h1,D7 h2 c.size,fun i e=>by rw [c.cell (by exact h2),c.cell (by exact h2),c.cell (by exact h2),c.cell (by exact h2)];exact h3 i e⟩
theorem wu {w:World} {a:Option Addr} {is:List L4} {q:Addr} {v:Value} (h:Ac w a is) (k:∀ b d,a=some ⟨b,d,none⟩->is≠[]->q.block≠b):Ac (w.setCell q v) a is:=by
 rcases Xg is.length with e | e
 · exact .inl (uF e)
 have g:is≠[]:=fun c=>by rw [c] at e;simp at e
 rcases h with h | ⟨b,d,h1,h2,h3⟩
 · exact absurd h g
 have f:∀ j,q≠⟨b,j,none⟩:=fun j e=>k b d h1 g (by rw [e]);refine .inr ⟨b,d,h1,by simpa using h2,fun i l=>?_⟩;rw [O_ _ _ _ _ (f _),O_ _ _ _ _ (f _),O_ _ _ _ _ (f _),O_ _ _ _ _ (f _)];exact h3 i l
def Lc (u:World) (B:Nat) (vs:List Value):Prop:=∀ j v,vs[j]?=some v->u.cell? ⟨B,j,none⟩=some v
def Uj (u:World) (B:Nat):Prop:=∀ j,u.frozen? ⟨B,j,none⟩=false
theorem nu (w:World) (vs:List Value) (t:TypeId):Lc (w.alloc (.cells vs.toArray t)) w.heap.size vs:=fun j v h=>by
 simp [go_sem,h]
theorem pu (w:World) (a:Array Value) (t:TypeId):Uj (w.alloc (.cells a t)) w.heap.size:=fun j=>by simp [go_sem]
theorem Lc.below {u u':World} {B N:Nat} {vs:List Value} (h:Lc u B vs) (a:Below N u u') (b:B<N):Lc u' B vs:=fun j v e=>(a.cell (p:=⟨B,j,none⟩) b).trans (h j v e)
theorem Uj.below {u u':World} {B N:Nat} (h:Uj u B) (a:Below N u u') (b:B<N):Uj u' B:=fun j=>(a.frozen (p:=⟨B,j,none⟩) b).trans (h j)
theorem Lc.set {u:World} {B:Nat} {vs:List Value} (h:Lc u B vs) (j:Nat) (v:Value) (b:j<vs.length):Lc (u.setCell ⟨B,j,none⟩ v) B (vs.set j v):=fun i x e=>by
 rcases Nat.decEq i j with a | rfl
 · rw [O_ _ _ _ _ (Od (fun e=>a e.symm))]
   rw [Zz (fun h=>a h.symm)] at e;exact h i x e
 rw [Fz b] at e;obtain rfl:=j6 e;exact O7 _ _ _ (h i _ (F8 b))
theorem Uj.set {u:World} {B:Nat} (h:Uj u B) (p:Addr) (v:Value):Uj (u.setCell p v) B:=fun j=>by simpa using h j
def fill (u:World) (B:Nat):Nat->List Value->World
 | _,[]=>u
 | j,v::vs=>fill (u.setCell ⟨B,j,none⟩ v) B (j+1) vs
theorem EA {B N:Nat} {w:World} (a:N<=B) (vs:List Value):∀ {u:World} (j:Nat),Below N w u->Below N w (fill u B j vs):=by
 induction vs with
 | nil=>intro u j h;exact h
 | cons v vs ih=>intro u j h;exact ih (j+1) (h.setCell (p:=⟨B,j,none⟩) a v)
structure D8 where
 nm:ByteArray
 made:Bool
 km:M3
 ls:List L4
 cd:Int
 tx:ByteArray
def D8.le (x:D8) (B:Nat):Prop:=x.nm.size<=B/\x.km.le B/\(x.ls.length<=B/\∀ i,(x.ls.getD i Ga).le B)/\x.tx.size<=B
structure T6 where
 over:Bool
 cd:Int
 tx:ByteArray
 has:Bool
 nm:ByteArray
 st:Int
def T6.le (x:T6) (B:Nat):Prop:=x.tx.size<=B/\x.nm.size<=B
structure bQ where
 kd:Int
 to:Int
 fr:Int
 ep:Int
 ed:Int
 km:M3
 ls:List L4
 ct:Int
 tn:T6
def bQ.le (x:bQ) (B:Nat):Prop:=x.km.le B/\(x.ls.length<=B/\∀ i,(x.ls.getD i Ga).le B)/\x.tn.le B
end Go.Proofs.YtdjaajjndfbpmaaGreatDoor.M
