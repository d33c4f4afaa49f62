import Derived.Test.YtchjpjmcnhjbcaaGreatDoorProg
import Derived.Below
import Derived.WalkKit
import Derived.Laws.BytesArg
import Derived.Shelf.Strings.Cut
import Derived.WalkSpells
import Derived.WalkLawsBesides
set_option linter.unusedVariables false
set_option maxHeartbeats 8000000
set_option maxRecDepth 100000
namespace Go.Proofs
variable {p:Prop} {u v w:World} {n:Nat} {α:Type}
theorem U0 (h:p):Go.RowKit.Hid p:=h
theorem P6 {o:Obj}:Go.RowKit.Below w.heap.size w (w.alloc o):=(Go.RowKit.Below.refl _ _).alloc (Nat.le_refl _) _
theorem X5 (h:Go.RowKit.Below w.heap.size w u) (k:Go.RowKit.Below u.heap.size u v):Go.RowKit.Below w.heap.size w v:=h.trans (k.mono h.size)
theorem O0 (h:p:=by omega):p:=h
theorem U7 (h:p:=by simp;omega):p:=h
theorem X4 (h:p:=by simp):p:=h
theorem o6 (h:p:=by decide):p:=h
theorem Y2 (h:p:=by kernel_rfl):p:=h
theorem H8:n<=n:=Nat.le_refl n
@[go_sem] abbrev vI (x:Int):Value:=.int .i64 x
@[go_sem] abbrev vS (x:ByteArray):Value:=.string x
@[go_sem] abbrev vL (a:Option Addr) (n c:Nat):Value:=.slice a n c
@[go_sem] abbrev vN:Value:=.slice none 0 0
@[go_sem] abbrev vE:Value:=.string ⟨#[]⟩
@[go_sem] abbrev vO:Value:=.int .i64 0
@[go_sem] abbrev aA (b o:Nat):Addr:=⟨b,o,none⟩
@[go_sem] abbrev aW (w:World) (o:Nat):Addr:=⟨w.heap.size,o,none⟩
abbrev BY:=ByteArray
abbrev LB:=List ByteArray
abbrev OA:=Option Addr
abbrev Bw (w w':World):Prop:=Go.RowKit.Below w.heap.size w w'
theorem KD (h:Bw u v) (e:u.heap.size=n:=by simp<;>rfl):Go.RowKit.Below n u v:=e▸h
theorem gz:(∀ (a:α) (l:List α),(a::l)[0]?=some a)/\∀ {α:Type} (a:α) (l:List α) (i:Nat),(a::l)[i+1]?=l[i]?:=⟨fun _ _=>rfl,fun _ _ _=>rfl⟩
theorem Cc {l:List α} {k:Nat} {P:Prop} (h:l=[]\/P) (hk:k<l.length):P:=h.elim (fun e=>by rw [e] at hk;exact absurd hk (Nat.not_lt_zero _)) id
abbrev J4:=@Nat.zero_le
abbrev Z4:=@Go.RowKit.Below.refl
abbrev Z8:=@List.getElem?_eq_getElem
abbrev G7:=@Nat.le_trans
abbrev J8:=@Nat.not_lt_zero
abbrev D9:=@List.length_append
abbrev Q7:=@Nat.lt_or_ge
abbrev O9:=@Nat.lt_of_lt_of_le
abbrev L8:=@Nat.zero_add
abbrev U6:=@congrArg
abbrev Y6:=@Go.bodyPost_ret
abbrev r_:=@Array.getElem?_eq_some_iff
abbrev l_:=@List.take_of_length_le
abbrev S_:=@List.getElem?_append_left
abbrev Na:=@Go.World.cell?_setCell_other
abbrev p_:=@beq_eq_false_iff_ne
abbrev Va:=@List.length_eq_zero_iff
abbrev S9:=@decide_eq_false
abbrev W_:=@Nat.le_of_ble_eq_true
abbrev o_:=@List.length_cons
abbrev B_:=@List.length_take
abbrev Ue:=@List.getElem?_append_right
abbrev Yb:=@List.getElem?_eq_none
abbrev w_:=@Option.some.inj
abbrev V_:=@Bool.and_eq_true
abbrev C_:=@decide_eq_true
abbrev jg:=@Go.World.cell?_setCell_same
abbrev Ec:=@Go.RowKit.Below.heap_setCell
abbrev Zd:=@List.getElem_of_mem
abbrev Ua:=@List.nil_append
abbrev I7:=@if_neg
abbrev X7:=@if_pos
abbrev Ud:=@decide_eq_true_eq
abbrev v_:=@Nat.le_refl
abbrev Rf:=@List.mem_cons_of_mem
abbrev Fj:=@List.getD_eq_getElem?_getD
abbrev Vd:=@List.length_map
abbrev Ee:=@List.length_nil
abbrev mg:=@Go.World.ownsRow_nil
abbrev Qh:=@Go.World.cell?_alloc_lt
abbrev rf:=@List.cons_append
abbrev qf:=@Option.getD_some
abbrev vg:=@List.flatMap_cons
abbrev Si:=@List.length_singleton
abbrev Jd:=@List.mem_cons
abbrev Tm:=@List.getElem?_eq_some_iff
abbrev Fh:=@Bool.eq_false_iff
abbrev Og:=@List.map_append
abbrev Df:=@ByteArray.ext
abbrev Hl:=@List.take_append_drop
abbrev Yg:=@List.mem_append
abbrev Yh:=@UInt8.toNat_inj
abbrev zi:=@List.cons.injEq
abbrev yj:=@List.length_drop
abbrev Bj:=@List.getElem_mem
abbrev Xk:=@Bool.false_ne_true
abbrev Ey:=@List.take_succ_eq_append_getElem
abbrev ak:=@Go.Result.andThen_ok
abbrev Xp:=@Array.getElem?_eq_none
abbrev jq:=@List.drop_of_length_le
abbrev Yk:=@Array.toList_inj
abbrev Ar:=@decide_eq_false_iff_not
abbrev Qm:=@Go.DataW.trod_string
abbrev qi:=@Go.Sem.run_bind
abbrev Sm:=@List.not_mem_nil
abbrev pq:=@List.length_pos_iff
abbrev Sv:=@Go.World.frozen?_alloc_old
abbrev qj:=@Nat.le_of_eq
abbrev Zp:=@List.mem_cons_self
abbrev Jo:=@List.all_eq_true
abbrev Xz:=@List.drop_eq_getElem_cons
abbrev Ns:=@List.flatMap_append
abbrev iq:=@List.append_assoc
abbrev Pn:=@List.all_append
abbrev Yp:=@List.take_length
abbrev Lm:=@List.cons.inj
abbrev Sr:=@List.take_add_one
abbrev Yr:=@List.getElem?_map
abbrev xq:=@Nat.min_eq_left
abbrev Uy:=@List.length_replicate
abbrev Om:=@Int.lt_or_le
abbrev Dv:=@List.mem_singleton
abbrev VB:=@List.getElem?_take_of_lt
abbrev Pm:=@List.mem_map
abbrev Wp:=@Go.DataW.trod_int
abbrev Rx:=@List.mem_of_mem_take
abbrev Qv:=@Nat.lt_trichotomy
abbrev Ro:=@Go.Sem.run_pure
abbrev En:=@Nat.add_zero
abbrev Qo:=@Nat.le_of_lt
abbrev Ov:=@Go.RowKit.Below.heap_alloc
abbrev Tv:=@Nat.le_of_not_lt
abbrev Py:=@List.pairwise_cons
abbrev Lr:=@List.mem_range
abbrev xC:=@List.eq_nil_or_concat
abbrev xB:=@List.concat_eq_append
abbrev Zx:=@List.getElem?_take
abbrev xw:=@Option.map_some
abbrev Fv:=@List.mem_filter
abbrev iw:=@List.foldl_cons
abbrev Vj:=@Nat.succ_mul
abbrev Vq:=@Go.Value.slice.injEq
abbrev Vl:=@List.all_cons
abbrev Ku:=@List.map_congr_left
abbrev wu:=@Array.length_toList
abbrev dA:=@Option.map_eq_some_iff
abbrev su:=@Nat.eq_zero_or_pos
abbrev Zu:=@List.filter_append
abbrev Am:=@Classical.em
abbrev Ou:=@Option.some.injEq
abbrev Iu:=@Go.World.ownsRow_lit
abbrev pz:=@Array.replicate_succ
abbrev yA:=@Array.replicate_zero
abbrev uI:=@ByteArray.getElem_eq_getElem_data
abbrev Wq:=@Go.run_underlying
abbrev yu:=@Nat.lt_succ_self
abbrev uz:=@List.append_toArray
abbrev Hq:=@List.map_cons
abbrev Yy:=@List.getElem?_drop
abbrev Pz:=@List.find?_eq_none
abbrev Io:=@Nat.le_succ
abbrev WH:=@List.take_append_of_le_length
abbrev yI:=@List.drop_append_of_le_length
abbrev UA:=@Int.toNat_natCast
abbrev fA:=@List.size_toArray
abbrev AA:=@List.push_toArray
abbrev Nu:=@Bool.and_false
abbrev Fq:=@Nat.zero_mul
abbrev Jq:=@Go.Addr.add_lit
abbrev jD:=@List.getElem?_set_ne
abbrev Vy:=@List.ext_getElem
abbrev Ko:=@beq_iff_eq
abbrev DI:=@Nat.mod_two_eq_zero_or_one
abbrev sD:=@List.mem_map_of_mem
abbrev Wy:=@List.append_nil
abbrev zI:=@Array.getElem?_eq_getElem
abbrev YC:=@UInt8.toNat_ofNat'
abbrev ru:=@List.map_map
abbrev cu:=@Go.wpList_plain
abbrev fF:=@Bool.false_eq_true
abbrev ku:=@Nat.sub_self
abbrev jy:=@Bool.false_and
abbrev Tq:=@bne_iff_ne
abbrev fE:=@List.getElem_take
abbrev wE:=@List.foldl_append
abbrev VH:=@List.getElem?_set_self
abbrev JA:=@Bool.and_true
abbrev iD:=@List.getElem_map
abbrev zD:=@List.mem_flatMap
abbrev SH:=@List.length_filter_le
abbrev LH:=@ByteArray.size_append
abbrev Qy:=@List.all_nil
abbrev pF:=@List.range_succ
abbrev QI:=@List.mem_append_left
abbrev UH:=@List.mem_of_mem_drop
abbrev ZI:=@List.getLastD_concat
abbrev UI:=@Nat.mul_le_mul_right
abbrev gI:=@Go.World.ownsRow.alloc
abbrev iJ:=@List.filter_eq_self
abbrev nJ:=@Go.World.grownBy_alloc
abbrev KE:=@List.drop_zero
abbrev OD:=@List.Perm.refl
abbrev yE:=@List.drop_drop
abbrev rO:=@List.takeWhile_append_of_pos
abbrev UQ:=@List.dropWhile_append_of_pos
abbrev zy:=@Int.le_refl
abbrev Zy:=@Nat.mul_one
abbrev VI:=@Nat.add_sub_cancel
abbrev KH:=@Go.World.ownsRow_made
abbrev Rl:=@not_or
abbrev OT:=@List.append_cancel_right_eq
abbrev YP:=@List.setIfInBounds_toArray
abbrev YS:=@List.mergeSort_of_pairwise
abbrev yR:=@List.eq_append_cons_of_mem
abbrev gQ:=@Int.tmod_eq_emod_of_nonneg
abbrev qI:=@Bool.not_eq_true'
abbrev aJ:=@Nat.le_succ_of_le
abbrev NI:=@Classical.not_not
abbrev TI:=@of_decide_eq_true
abbrev DT:=@List.mem_of_find?_eq_some
abbrev lT:=@List.pairwise_iff_getElem
abbrev yO:=@List.extract_eq_take_drop
abbrev YI:=@List.map_toArray
abbrev QE:=@List.map_nil
abbrev rE:=@UInt8.not_lt
abbrev FT:=@Option.isSome_iff_exists
abbrev GI:=@Go.IntKind.wrap_i64
abbrev yT:=@Int.eq_ofNat_of_zero_le
abbrev jR:=@Nat.add_sub_cancel_left
abbrev jQ:=@List.getElem?_cons_succ
abbrev VQ:=@List.getElem?_replicate
abbrev kJ:=@List.headD_cons
abbrev pI:=@List.length_set
abbrev fJ:=@Go.DataW.trod_bool
abbrev XH:=@List.find?_some
abbrev ZH:=@Bool.or_eq_true
abbrev EH:=@UInt8.lt_irrefl
abbrev JE:=@List.map_id
abbrev lD:=@Nat.min_def
abbrev gJ:=@List.drop_take
abbrev oI:=@Bool.not_false
abbrev Oy:=@true_and
abbrev II:=@Bool.and_self
abbrev xI:=@Prod.mk.injEq
abbrev XI:=@Bool.not_true
end Go.Proofs
namespace Go.Proofs.YtchjpjmcnhjbcaaGreatDoor
open Proofs.Tryz Go.RowKit
def j_ (c:UInt8):Bool:=decide (48<=(c.toNat:Int)/\(c.toNat:Int)<=57)
def Rj (c:UInt8):Bool:=decide (33<=(c.toNat:Int)/\(c.toNat:Int)<=126)
def Y5 (l:List UInt8):Bool:=decide (1<=l.length/\l.length<=20)&&l.all Rj
def JX (n:Int) (c:UInt8):Int:=n*10+((c.toNat:Int) - 48)
def val (l:List UInt8):Int:=l.foldl JX 0
theorem He (l:List UInt8) (c:UInt8):val (l++[c])=val l*10+((c.toNat:Int) - 48):=by simp [val,JX]
theorem Ld (c:UInt8):j_ c=true↔48<=(c.toNat:Int)/\(c.toNat:Int)<=57:=by simp [j_]
theorem Uo (c:UInt8):Rj c=true↔33<=(c.toNat:Int)/\(c.toNat:Int)<=126:=by simp [Rj]
theorem Hr {P:List UInt8->Prop} (h0:P []) (h1:∀ l c,P l->P (l++[c])) (l:List UInt8):P l:=by
 have h:∀ r:List UInt8,P r.reverse:=fun r=>by
  induction r with
  | nil=>exact h0
  | cons c r ih=>rw [List.reverse_cons];exact h1 _ _ ih
 have:=h l.reverse
 rwa [List.reverse_reverse] at this
theorem jm (l:List UInt8):l.all j_=true->0<=val l:=by
 refine Hr (P:=fun l=>l.all j_=true->0<=val l) (by simp [val]) (fun l c a h=>?_) l;rw [Pn] at h;simp only [Vl,Qy,JA,V_] at h;have:=a h.1;have hc:=(Ld c).1 h.2;rw [He];omega
theorem jo (l:List UInt8):l.all j_=true->∀ k,val (l.take k)<=val l:=by
 refine Hr (P:=fun l=>l.all j_=true->∀ k,val (l.take k)<=val l) (by simp [val]) (fun l c a h k=>?_) l;rw [Pn] at h;simp only [Vl,Qy,JA,V_] at h;by_cases b:k<=l.length
 · rw [WH b,He];have:=a h.1 k;have h0:=jm l h.1;have hc:=(Ld c).1 h.2;omega
 · rw [l_ U7];exact zy _
def Ob (l:List UInt8):Bool:=!l.isEmpty&&!(l.headD 0==48&&!(l==[48]))
def Yd (l:List UInt8):Bool:=Ob l&&l.all j_&&decide (val l<=40)
def ZA:Nat->Int->List UInt8
 | 0,_=>[]
 | f+1,n=>if n<10 then [UInt8.ofNat (48+n).toNat] else ZA f (n / 10)++[UInt8.ofNat (48+n % 10).toNat]
def dec (n:Int):List UInt8:=ZA (n.toNat+1) n
theorem zO (f g:Nat) (n:Int) (h0:0<=n) (hf:n.toNat<f) (hg:n.toNat<g):ZA f n=ZA g n:=by
 induction f generalizing g n with
 | zero=>omega
 | succ f ih=>
  cases g with
  | zero=>omega
  | succ g=>
   simp only [ZA];by_cases h:n<10
   · rw [X7 h,X7 h]
   · rw [I7 h,I7 h,ih g (n / 10) O0 O0 O0]
theorem dec_lt (n:Int) (h:n<10):dec n=[UInt8.ofNat (48+n).toNat]:=by simp [dec,ZA,h]
theorem Tj (n:Int) (h:10<=n):dec n=dec (n / 10)++[UInt8.ofNat (48+n % 10).toNat]:=by
 unfold dec;rw [ZA,I7 O0,zO n.toNat ((n / 10).toNat+1) (n / 10) O0 O0 O0]
theorem JI (n:Int):dec n≠[]:=by
 by_cases h:n<10
 · rw [dec_lt n h];simp
 · rw [Tj n O0];simp
theorem qN (c:UInt8) (h:j_ c=true):UInt8.ofNat (48+((c.toNat:Int) - 48)).toNat=c:=by
 have:=(Ld c).1 h;rw [show (48+((c.toNat:Int) - 48)).toNat=c.toNat by omega];exact UInt8.ofNat_toNat
theorem ax (l:List UInt8):l.all j_=true->Ob l=true->dec (val l)=l/\(2<=l.length->10<=val l)/\(l.headD 0≠48->1<=val l):=by
 refine Hr (P:=fun l=>l.all j_=true->Ob l=true->dec (val l)=l/\(2<=l.length->10<=val l)/\(l.headD 0≠48->1<=val l)) (by simp [Ob]) (fun l c b h hl=>?_) l;rw [Pn] at h;simp only [Vl,Qy,JA,V_] at h;have hc:=(Ld c).1 h.2;have hd:=qN c h.2
 cases l with
 | nil=>
  have e:val ([]++[c])=(c.toNat:Int) - 48:=by rw [He];simp [val]
  rw [e];refine ⟨?_,X4,?_⟩
  · rw [dec_lt _ O0,hd];rfl
  · intro h1;simp at h1;have:c.toNat≠48:=fun e=>h1 (by rw [<- Yh];exact e);omega
 | cons a r=>
  have ha:a≠48:=by
   intro e;subst e;simp [Ob] at hl
  have f:Ob (a::r)=true:=by simp [Ob,ha]
  obtain ⟨h1,_,i⟩:=b h.1 f;have h4:=i (by simpa using ha);rw [He];have g:(val (a::r)*10+((c.toNat:Int) - 48)) / 10=val (a::r):=O0;have d:(val (a::r)*10+((c.toNat:Int) - 48)) % 10=(c.toNat:Int) - 48:=O0;refine ⟨?_,fun _=>O0,fun _=>O0⟩;rw [Tj _ O0,g,d,h1,hd]
theorem VF (f:Nat) (n:Int) (h0:0<=n) (hf:n.toNat<f):Ob (dec n)=true/\(1<=n->(dec n).headD 0≠48):=by
 induction f generalizing n with
 | zero=>omega
 | succ f ih=>
  by_cases h:n<10
  · rw [dec_lt n h];obtain rfl | rfl | rfl | rfl | rfl | rfl | rfl | rfl | rfl | rfl:n=0\/n=1\/n=2\/n=3\/n=4\/n=5\/n=6\/n=7\/n=8\/n=9:=O0
    all_goals decide
  · obtain ⟨h1,h2⟩:=ih (n / 10) O0 O0;have c:=h2 O0;rw [Tj n O0];have b:=JI (n / 10);generalize dec (n / 10)=l at*
    cases l with
    | nil=>exact absurd rfl b
    | cons a r=>
     have ha:a≠48:=by simpa using c
     exact ⟨by simp [Ob,ha],fun _=>by simpa using ha⟩
theorem vw (l:List UInt8) (h:l.all j_=true) (hl:Ob l=true) (b:val l<=40):l.length<=2:=by
 rcases Q7 2 l.length with h2 | h2
 · exfalso;rcases xC l with e | ⟨r,c,e⟩
   · subst e;simp at h2
   · rw [xB] at e;subst e;rw [Pn] at h;simp only [Vl,Qy,JA,V_] at h;have hr:2<=r.length:=by simp at h2;omega
     cases r with
     | nil=>simp at hr
     | cons a r=>
      have ha:a≠48:=by
       intro e;subst e;simp [Ob] at hl
      have:=(ax (a::r) h.1 (by simp [Ob,ha])).2.1 hr;have hc:=(Ld c).1 h.2;rw [He] at b;omega
 · exact h2
theorem xQ (f:Nat) (n:Int):(ZA f n).length<=f:=by
 induction f generalizing n with
 | zero=>simp [ZA]
 | succ f ih=>
  simp only [ZA];by_cases h:n<10
  · rw [X7 h];simp
  · rw [I7 h];have:=ih (n / 10);simp;omega
theorem jK (n:Int) (h:0<=n) (h1:n<=100000000):(dec n).length<=100000001:=by
 have:=xQ (n.toNat+1) n;unfold dec;omega
theorem uT (n:Int) (h:0<=n) (h1:n<=100000000):IntKind.i64.wrap (n.tdiv 10)=n / 10:=by
 rw [Int.tdiv_eq_ediv_of_nonneg h];simp [IntKind.wrap,IntKind.signed,IntKind.bits];omega
end Go.Proofs.YtchjpjmcnhjbcaaGreatDoor
namespace Go.Proofs
open Go.Shelf
def Tryz.tH:Go.Shelf.Ren:=⟨fun | 145=>201 | 220=>243 | 219=>275 | 217=>289 | 225=>290 | 224=>291 | 267=>292 | 266=>318 | 314=>319 | n => n, fun | 9=>9 | 4=>4 | 59=>279 | 3=>3 | 5=>5 | 46=>257 | 146=>326 | 51=>325 | n => n, fun | 1=>5 | n=>n⟩
theorem Tryz.lays145:Go.Proofs.Lays.n145 prog Tryz.tH:={
 mixed:=Y2
 f145:=func201.trans (U6 some Y2)
 f217:=func289.trans (U6 some Y2)
 f219:=func275.trans (U6 some Y2)
 f220:=func243.trans (U6 some Y2)
 f224:=func291.trans (U6 some Y2)
 f225:=func290.trans (U6 some Y2)
 f266:=func318.trans (U6 some Y2)
 f267:=func292.trans (U6 some Y2)
 f314:=func319.trans (U6 some Y2)
 t3:=underlying3
 a3:=Tryz.isAgg3
 z3:=Tryz.sizeOf3
 v3:=Tryz.zeroValue3
 t4:=underlying4
 a4:=Tryz.isAgg4
 z4:=Tryz.sizeOf4
 v4:=Tryz.zeroValue4
 t5:=underlying5
 a5:=Tryz.isAgg5
 z5:=Tryz.sizeOf5
 v5:=Tryz.zeroValue5
 t9:=underlying9
 a9:=Tryz.isAgg9
 z9:=Tryz.sizeOf9
 v9:=Tryz.zeroValue9
 t46:=underlying257
 a46:=Tryz.isAgg257
 z46:=Tryz.sizeOf257
 v46:=Tryz.zeroValue257
 t51:=underlying325
 a51:=Tryz.isAgg325
 z51:=Tryz.sizeOf325
 v51:=Tryz.zeroValue325
 t59:=underlying279
 a59:=Tryz.isAgg279
 z59:=Tryz.sizeOf279
 v59:=Tryz.zeroValue279
 t146:=underlying326
 a146:=Tryz.isAgg326
 z146:=Tryz.sizeOf326
 v146:=Tryz.zeroValue326
 g1:=by kernel_rfl }
theorem Tryz.strings_Cut (s a:BY) (m:Int) (w:World) (b:s.size<4294967281) (hm:w.cell? ⟨5,0,none⟩=some (.int .i64 m)):
 Calls prog 201 #[.string s,.string a] w fun e w'=>e=.returned (.tuple #[.string ⟨(Lib.cut s.data.toList a.data.toList).1.toArray⟩,.string ⟨(Lib.cut s.data.toList a.data.toList).2.1.toArray⟩,.bool (Lib.cut s.data.toList a.data.toList).2.2])/\∃ n,w'=w.drewN n:=Any.strings_Cut Tryz.lays145 s a m w b hm
end Go.Proofs
namespace Go.Proofs.YtchjpjmcnhjbcaaGreatDoor
open Proofs.Tryz Go.RowKit
def hstep (x:Int) (c:UInt8):Int:=IntKind.u64.wrap (bits BinOp.xor IntKind.u64 x (IntKind.u64.wrap (c.toNat:Int))*1099511628211)
def hsum (l:List UInt8):Int:=l.foldl hstep 14695981039346656037
theorem gy (x:Int):0<=IntKind.u64.wrap x/\IntKind.u64.wrap x<=18446744073709551615:=by
 simp [IntKind.wrap,IntKind.signed,IntKind.bits];omega
theorem Dj (l:List UInt8):0<=hsum l/\hsum l<=18446744073709551615:=by
 unfold hsum;rcases xC l with h | ⟨l',c,h⟩
 · subst h;simp
 · subst h;simp only [xB,wE,iw,List.foldl_nil];exact gy _
theorem yB (l:List UInt8) (c:UInt8):hsum (l++[c])=hstep (hsum l) c:=by simp [hsum]
theorem take_snoc (s:BY) (k:Nat) (h:k<s.size):s.data.toList.take (k+1)=s.data.toList.take k++[s[k]]:=by
 rw [Ey (by simpa using h)];rfl
def TT (v:Int):Nat->Int
 | 0=>v
 | k+1=>TT v k / 256
def outs (v:Int):Nat->List Int
 | 0=>[]
 | k+1=>(TT v k % 256)::outs v k
theorem Ho (v:Int) (k:Nat):(outs v k).length=k:=by induction k with
 | zero=>rfl
 | succ k ih=>simp [outs,ih]
theorem zB (v:Int) (h0:0<=v) (h1:v<=18446744073709551615) (k:Nat):0<=TT v k/\TT v k<=18446744073709551615:=by
 induction k with
 | zero=>exact ⟨h0,h1⟩
 | succ k ih=>simp only [TT];omega
theorem BQ (x:Int) (l:List Int):strOfNums [x]++strOfNums l=strOfNums (x::l):=by
 apply Df;simp [strOfNums]
def kc (X:Int) (k j:Nat):Int:=if 8<=j+k then TT X (7 - j) % 256 else 0
theorem nV (X:Int) (j:Nat) (_h:j<8):kc X 0 j=0:=by unfold kc;rw [if_neg O0]
theorem QV (X:Int) (k:Nat) (h:k<8):kc X (k+1) (7 - k)=TT X k % 256:=by
 unfold kc;rw [if_pos O0];congr 2;omega
theorem WQ (X:Int) (k j:Nat) (_h:k<8) (_hj:j<8) (hne:j≠7 - k):kc X (k+1) j=kc X k j:=by
 unfold kc;by_cases h1:8<=j+k
 · rw [X7 O0,X7 h1]
 · rw [I7 O0,I7 h1]
theorem VL (X:Int) (k i:Nat) (h:i<k):(outs X k).getD i 0=TT X (k - 1 - i) % 256:=by
 induction k generalizing i with
 | zero=>omega
 | succ k ih=>
  cases i with
  | zero=>simp [outs]
  | succ i=>
   simp only [outs,List.getD_cons_succ];rw [ih i O0]
   congr 2
   omega
theorem VW (X:Int) (k i:Nat) (hk:k<=8) (h:i<k):kc X k (8 - k+i)=(outs X k).getD i 0:=by
 rw [VL X k i h];unfold kc;rw [X7 O0]
 congr 2
 omega
theorem Jp {k:IntKind} {a b:Int} (h:a=b):Ending.returned (.int k a)=.returned (.int k b):=by rw [h]
theorem a2q (s:BY) (w:World) (hs:s.size<=1048700):
 Calls prog 274 #[.string s] w fun e w'=>e=.returned (.int .u64 (hsum s.data.toList))/\w'=w:=by
 go_enter func274,ntmps274;go_wp2;go_loop [3,4] (fun v i=>∃ k:Nat,k<=s.size/\i=.int .i64 k/\v=.int .u64 (hsum (s.data.toList.take k))) (fun _ i=>s.size - (RowKit.intOf i).toNat)
 case atStart=>exact ⟨0,J4 _,rfl,rfl⟩
 case round=>
  obtain ⟨k,hk,rfl,rfl⟩:=hrel;have hx:=Dj (s.data.toList.take k);by_cases a:k<s.size
  · have b:Hid (hsum (s.data.toList.take (k+1))=hstep (hsum (s.data.toList.take k)) s[k]):=by rw [take_snoc s k a];exact yB _ _
    go_wp2
    go_round
    case rel=>exact ⟨k+1,O0,by go_num,by rw [b.out];rfl⟩
    case measure=>simp [RowKit.intOf];omega
  · go_wp2;go_ret;exact ⟨Jp (by rw [l_ U7]),rfl⟩
theorem a4g (s:BY) (w:World) (hs:s.size<=1048700):
 Calls prog 244 #[.string s] w fun e w'=>e=.returned (.int .u64 (hsum s.data.toList))/\w'=w:=by
 go_enter func244,ntmps244;go_wp2;go_loop [3,7] (fun v i=>∃ k:Nat,k<=s.size/\i=.int .i64 k/\v=.int .u64 (hsum (s.data.toList.take k))) (fun _ i=>s.size - (RowKit.intOf i).toNat)
 case atStart=>exact ⟨0,J4 _,rfl,rfl⟩
 case round=>
  obtain ⟨k,hk,rfl,rfl⟩:=hrel;have hx:=Dj (s.data.toList.take k);by_cases a:k<s.size
  · have b:Hid (hsum (s.data.toList.take (k+1))=hstep (hsum (s.data.toList.take k)) s[k]):=by rw [take_snoc s k a];exact yB _ _
    go_wp2
    go_round
    case rel=>exact ⟨k+1,O0,by go_num,by rw [b.out];rfl⟩
    case measure=>simp [RowKit.intOf];omega
  · go_wp2;go_ret;exact ⟨Jp (by rw [l_ U7]),rfl⟩
theorem xK (u:World) (y:Int):(convert 183 9 (.slice (some ⟨u.heap.size,0,none⟩) 1 1)).run prog (u.alloc (.cells #[.int .u8 y] 5))=.ok (.string (strOfNums [y])) (u.alloc (.cells #[.int .u8 y] 5)):=
 run_convert_bytes_arg _ 183 5 underlying183 underlying5 _ 0 1 1 [y] rfl (fun i hi=>by
  obtain rfl:i=0:=O0;simp) 9 underlying9
theorem a2Z (v:Int) (n:Nat) (w:World) (d:0<=v) (c:v<=18446744073709551615) (hn:n<=8):
 Calls prog 273 #[.int .u64 v,.int .i64 n] w fun e w'=>e=.returned (.string (strOfNums (outs v n)))/\Bw w w':=by
 have hcv:=xK;have hz:∀ y,(strOfNums [y]).size=1:=fun y=>strOfNums_size [y];go_enter func273,ntmps273;go_wp2;go_loopw [0,5,6] (fun a o i wr=>∃ k:Nat,k<=n/\i=.int .i64 k/\a=.int .u64 (TT v k)/\o=.string (strOfNums (outs v k))/\Below w.heap.size w wr) (fun _ _ i _=>n - (RowKit.intOf i).toNat)
 case atStart=>exact ⟨0,J4 _,rfl,rfl,rfl,Z4 _ _⟩
 case round=>
  obtain ⟨k,hk,rfl,rfl,rfl,b⟩:=hrel;have hx:=zB v d c k;have hq:(strOfNums (outs v k)).size=k:=by rw [strOfNums_size,Ho]
  by_cases hlt:k<n
  · go_wp2;go_roundw
    case rel=>exact ⟨k+1,O0,by go_num,rfl,by rw [BQ];rfl,b.alloc b.size _⟩
    case measure=>simp [RowKit.intOf];omega
  · go_wp2;go_ret;obtain rfl:k=n:=O0;exact ⟨rfl,b⟩
theorem c203 (s:BY) (n:Nat) (w:World) (hn:n<=8) (g:s.size<=1048700):
 Calls prog 203 #[.string s,.int .i64 n] w fun e w'=>(∃ X,X=hsum s.data.toList/\e=.returned (.agg #[.int .u8 (kc X n 0),.int .u8 (kc X n 1),.int .u8 (kc X n 2),.int .u8 (kc X n 3),.int .u8 (kc X n 4),.int .u8 (kc X n 5),.int .u8 (kc X n 6),.int .u8 (kc X n 7)]))/\Bw w w':=by
 go_enter func203,ntmps203
 go_wp2_with fail
 refine (a4g _ _ g).mono ?_;rintro e w' ⟨rfl,rfl⟩;have hx:=Dj s.data.toList;generalize hX:hsum s.data.toList=X at*;have z:=U0 hX.symm;clear hX
 go_wp2_with fail
 go_loopw [6,11] (fun a i wr=>∃ k:Nat,k<=n/\i=.int .i64 k/\a=.int .u64 (TT X k)/\Below w.heap.size w wr/\w.heap.size+2<=wr.heap.size/\(∀ j,j<8->wr.cell? ⟨w.heap.size+1,j,none⟩=some (.int .u8 (kc X k j)))/\(∀ j,wr.frozen? ⟨w.heap.size+1,j,none⟩=false)/\(∀ j,j<8->wr.cell? ⟨w.heap.size,j,none⟩=some (.int .u8 0))/\(∀ j,wr.frozen? ⟨w.heap.size,j,none⟩=false)) (fun _ i _=>n - (RowKit.intOf i).toNat)
 case atStart=>
  refine ⟨0,J4 _,rfl,rfl,P6.alloc X4 _,X4,?_,?_,?_,?_⟩
  · intro j b;rw [nV X j b];rcases j with _ | _ | _ | _ | _ | _ | _ | _ | j <;> first | omega | simp
  · intro j;simp
  · intro j b;rcases j with _ | _ | _ | _ | _ | _ | _ | _ | j <;> first | omega | simp
  · intro j;simp
 case round=>
  obtain ⟨k,hk,rfl,rfl,c,f,h1,d,h0,l⟩:=hrel;have hx:=zB X hx.1 hx.2 k;by_cases hlt:k<n
  · have g1:=h1 (7 - k) O0;have g2:=d (7 - k);go_wp2;go_roundw
    case rel=>
     refine ⟨k+1,O0,by go_num,rfl,c.setCell X4 _,by simpa using f,?_,?_,?_,?_⟩
     · intro j b;by_cases e:j=7 - k
       · subst e;rw [QV X k O0];exact jg _ _ _ g1
       · rw [WQ X k j O0 b e,<- h1 j b];exact Na _ _ _ _ (by intro h;injection h with h1 h2;exact e h2.symm)
     · intro j;rw [<- d j];simp
     · intro j b;rw [<- h0 j b];exact Na _ _ _ _ X4
     · intro j;rw [<- l j];simp
    case measure=>simp [RowKit.intOf];omega
  · have a0:=h1 0 O0;have a1:=h1 1 O0;have a2:=h1 2 O0;have a3:=h1 3 O0;have a4:=h1 4 O0;have a5:=h1 5 O0;have a6:=h1 6 O0;have a7:=h1 7 O0;have b0:=h0 0 O0;have y:=h0 1 O0;have t:=h0 2 O0;have r:=h0 3 O0;have q:=h0 4 O0;have p:=h0 5 O0;have o:=h0 6 O0;have m:=h0 7 O0;clear h1 h0;go_wp2;obtain rfl:k=n:=O0;refine Y6 (v:=.agg #[.int .u8 (kc X k 0),.int .u8 (kc X k 1),.int .u8 (kc X k 2),.int .u8 (kc X k 3),.int .u8 (kc X k 4),.int .u8 (kc X k 5),.int .u8 (kc X k 6),.int .u8 (kc X k 7)]) (by simp [results,results203,go_sem,b0,y,t,r,q,p,o,m]) rfl ⟨⟨X,z.out,rfl⟩,?_⟩;have st:∀ (u:World) (j:Nat) (x:Value),Bw w u->Bw w (u.setCell (aW w j) x):=fun u j x h=>h.setCell H8 x
    iterate 8 refine st _ _ _ ?_
    exact c
def Z5 (s:BY) (n:Int):BY:=if 1<=n/\n<=8 then strOfNums (outs (hsum s.data.toList) n.toNat) else ByteArray.empty
theorem xG (n l h:Int) (w:World):
 Calls prog 55 #[.int .i64 n,.int .i64 l,.int .i64 h] w fun e w'=>e=.returned (.bool (decide (l<=n/\n<=h)))/\w'=w:=by
 by_cases h1:l<=n <;> by_cases h2:n<=h
 all_goals
  go_enter func55,ntmps55;go_wp2
  all_goals go_ret
  all_goals exact ⟨by simp [*],rfl⟩
theorem lV (n:Int) (w:World):
 Calls prog 54 #[.int .i64 n] w fun e w'=>e=.returned (.bool (decide (1<=n/\n<=8)))/\w'=w:=by
 go_enter func54,ntmps54
 go_wp2_with (go_at_call 55;refine (xG _ _ _ _).mono ?_;rintro e w' ⟨rfl,rfl⟩)
 go_ret;exact ⟨X4,rfl⟩
theorem oW (n:Int) (w:World):
 Calls prog 108 #[.int .i64 n] w fun e w'=>e=.returned (.bool (decide (1<=n/\n<=8)))/\w'=w:=by
 by_cases h1:1<=n <;> by_cases h2:n<=8
 all_goals
  go_enter func108,ntmps108;go_wp2
  all_goals go_ret
  all_goals exact ⟨by simp [*],rfl⟩
theorem YA (s:BY) (n:Int) (w:World) (b:s.size<=1048700):
 Calls prog 240 #[.string s,.int .i64 n] w fun e w'=>e=.returned (.string (Z5 s n))/\Bw w w':=by
 by_cases h:1<=n/\n<=8
 · have hd:decide (1<=n/\n<=8)=true:=by simpa using h
   have hx:=Dj s.data.toList;obtain ⟨k,rfl⟩:=yT (show 0<=n by omega);have a:Hid (Z5 s k=strOfNums (outs (hsum s.data.toList) k)):=by unfold Z5;rw [if_pos h];rfl
   go_enter func240,ntmps240
   go_wp2_with fail
   refine (lV _ _).mono ?_;rintro e w' ⟨rfl,rfl⟩;rw [hd]
   go_wp2_with fail
   refine (a2q _ _ b).mono ?_;rintro e w' ⟨rfl,rfl⟩
   go_wp2_with fail
   refine (a2Z _ _ _ hx.1 hx.2 O0).mono ?_;rintro e w' ⟨rfl,c⟩;go_wp2;go_ret;exact ⟨by rw [a.out];rfl,c⟩
 · have hd:decide (1<=n/\n<=8)=false:=by simpa using h
   have a:Hid (Z5 s n=ByteArray.empty):=by unfold Z5;rw [if_neg h];rfl
   go_enter func240,ntmps240
   go_wp2_with fail
   refine (lV _ _).mono ?_;rintro e w' ⟨rfl,rfl⟩;rw [hd];go_wp2;go_ret;exact ⟨by rw [a.out];rfl,Z4 _ _⟩
theorem a3w (u:World) (b k:Nat) (h1:1<=k) (h2:k<=8):
 (Instr.sliceAt 283 (.pointer (some ⟨b,0,none⟩)) (some (.int .i64 (8 - (k:Int)))) none none).run prog u=.ok (.slice (some ⟨b,8 - k,none⟩) k k) u:=by
 obtain rfl | rfl | rfl | rfl | rfl | rfl | rfl | rfl:k=1\/k=2\/k=3\/k=4\/k=5\/k=6\/k=7\/k=8:=O0
 all_goals kernel_rfl
theorem a0P (u:World) (X:Int) (k:Nat) (h2:k<=8):
 (convert 183 9 (.slice (some ⟨u.heap.size,8 - k,none⟩) k k)).run prog (u.alloc (.cells #[.int .u8 (kc X k 0),.int .u8 (kc X k 1),.int .u8 (kc X k 2),.int .u8 (kc X k 3),.int .u8 (kc X k 4),.int .u8 (kc X k 5),.int .u8 (kc X k 6),.int .u8 (kc X k 7)] 283))
  =.ok (.string (strOfNums (outs X k))) (u.alloc (.cells #[.int .u8 (kc X k 0),.int .u8 (kc X k 1),.int .u8 (kc X k 2),.int .u8 (kc X k 3),.int .u8 (kc X k 4),.int .u8 (kc X k 5),.int .u8 (kc X k 6),.int .u8 (kc X k 7)] 283)):=
 run_convert_bytes_arg _ 183 5 underlying183 underlying5 _ (8 - k) k k (outs X k) (Ho X k) (fun i b=>by
  rw [<- VW X k i h2 b];have a:8 - k+i<8:=O0;generalize 8 - k+i=j at a ⊢;obtain rfl | rfl | rfl | rfl | rfl | rfl | rfl | rfl:j=0\/j=1\/j=2\/j=3\/j=4\/j=5\/j=6\/j=7:=O0
  all_goals simp) 9 underlying9
theorem aI (s:BY) (n:Int) (w:World) (f:s.size<=1048700):
 Calls prog 151 #[.string s,.int .i64 n] w fun e w'=>e=.returned (.string (Z5 s n))/\Bw w w':=by
 by_cases h:1<=n/\n<=8
 · have hd:decide (1<=n/\n<=8)=true:=by simpa using h
   have hx:=Dj s.data.toList;obtain ⟨k,rfl⟩:=yT (show 0<=n by omega);have a:Hid (Z5 s k=strOfNums (outs (hsum s.data.toList) k)):=by unfold Z5;rw [if_pos h];rfl
   go_enter func151,ntmps151
   go_wp2_with fail
   refine (oW _ _).mono ?_;rintro e w' ⟨rfl,rfl⟩;rw [hd]
   go_wp2_with fail
   refine (c203 _ _ _ O0 f).mono ?_;rintro e w' ⟨⟨X,d,rfl⟩,c⟩;have g:=U0 d;clear d;have g1:=fun (u:World) (b:Nat)=>a3w u b k O0 O0;have g2:=fun (u:World)=>a0P u X k O0;go_wp2;go_ret;exact ⟨by rw [a.out,<- g.out];rfl,c.alloc c.size _⟩
 · have hd:decide (1<=n/\n<=8)=false:=by simpa using h
   have a:Hid (Z5 s n=ByteArray.empty):=by unfold Z5;rw [if_neg h];rfl
   go_enter func151,ntmps151
   go_wp2_with fail
   refine (oW _ _).mono ?_;rintro e w' ⟨rfl,rfl⟩;rw [hd];go_wp2;go_ret;exact ⟨by rw [a.out];rfl,Z4 _ _⟩
