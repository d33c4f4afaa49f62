import Derived.Test.YtbgdfcmeheaiiaaGreatDoorProg
import Derived.Below
import Derived.WalkKit
import Derived.Laws.BytesArg
import Derived.Shelf.Strings.Cut
import Derived.WalkSpells
import Derived.WalkLawsBesides
set_option linter.unusedVariables false
set_option linter.unusedSimpArgs false
set_option maxHeartbeats 8000000
set_option maxRecDepth 100000
namespace Go.Proofs
variable{p:Prop}{u v w:World}{n:Nat}
theorem U0(h:p):Go.RowKit.Hid p:=h
theorem P6{o:Obj}:Go.RowKit.Below w.heap.size w (w.alloc o):=(Go.RowKit.Below.refl _ _).alloc (Nat.le_refl _) _
theorem P5(h:Go.RowKit.Below w.heap.size w u)(k:Go.RowKit.Below u.heap.size u v):Go.RowKit.Below w.heap.size w v:=h.trans (k.mono h.size)
theorem O0(h:p:=by omega):p:=h
theorem X7(h:p:=by simp;omega):p:=h
theorem O4(h:p:=by simp):p:=h
theorem J6(h:p:=by decide):p:=h
theorem Y0(h:p:=by kernel_rfl):p:=h
theorem Y8:n<=n:=Nat.le_refl n
theorem P9(h:p:=by simp[Go.RowKit.intOf];omega):p:=h
@[go_sem] abbrev vI(x:Int):Value:=.int .i64 x
@[go_sem] abbrev vS(x:ByteArray):Value:=.string x
@[go_sem] abbrev vL(a:Option Addr)(n c:Nat):Value:=.slice a n c
@[go_sem] abbrev vN:Value:=.slice none 0 0
@[go_sem] abbrev vE:Value:=.string ⟨#[]⟩
@[go_sem] abbrev vO:Value:=.int .i64 0
@[go_sem] abbrev aA(b o:Nat):Addr:=⟨b,o,none⟩
@[go_sem] abbrev aW(w:World)(o:Nat):Addr:=⟨w.heap.size,o,none⟩
abbrev BY:=ByteArray
abbrev LB:=List ByteArray
abbrev OA:=Option Addr
abbrev Bw(w w':World):Prop:=Go.RowKit.Below w.heap.size w w'
theorem Tq(h:Bw u v)(e:u.heap.size=n:=by simp<;>rfl):Go.RowKit.Below n u v:=e▸h
theorem gz:(∀{α:Type}(a:α)(l:List α),(a::l)[0]?=some a)/\∀{α:Type}(a:α)(l:List α)(i:Nat),(a::l)[i+1]?=l[i]?:=⟨λ_ _=>rfl,λ_ _ _=>rfl⟩
theorem Zb{α:Type}{l:List α}{k:Nat}{P:Prop}(h:l=[]\/P)(hk:k<l.length):P:=h.elim (λe=>by rw[e]at hk;exact absurd hk (Nat.not_lt_zero _)) id
abbrev I4:=@Nat.zero_le
abbrev J4:=@Go.RowKit.Below.refl
abbrev D9:=@List.getElem?_eq_getElem
abbrev U7:=@Nat.not_lt_zero
abbrev X9:=@Nat.le_of_ble_eq_true
abbrev G9:=@Nat.lt_of_lt_of_le
abbrev L9:=@List.length_append
abbrev P7:=@Nat.lt_or_ge
abbrev Q8:=@Nat.le_trans
abbrev U6:=@congrArg
abbrev l7:=@Nat.zero_add
abbrev o7:=@Go.bodyPost_ret
abbrev p_:=@List.take_of_length_le
abbrev R_:=@List.getElem?_append_left
abbrev Ua:=@Array.getElem?_eq_some_iff
abbrev y9:=@decide_eq_false
abbrev Qa:=@Go.World.cell?_setCell_other
abbrev La:=@List.length_eq_zero_iff
abbrev K_:=@beq_eq_false_iff_ne
abbrev x_:=@List.length_cons
abbrev m_:=@decide_eq_true
abbrev J9:=@Nat.le_refl
abbrev rf:=@List.getElem?_append_right
abbrev D_:=@Option.some.inj
abbrev Mc:=@List.getElem?_eq_none
abbrev L_:=@List.length_take
abbrev X_:=@Bool.and_eq_true
abbrev f_:=@Classical.em
abbrev ng:=@Go.World.cell?_setCell_same
abbrev Ce:=@List.getElem_of_mem
abbrev Qb:=@List.nil_append
abbrev Zc:=@decide_eq_true_eq
abbrev Y7:=@if_neg
abbrev D8:=@if_pos
abbrev vg:=@List.mem_cons_of_mem
abbrev Fj:=@List.getD_eq_getElem?_getD
abbrev uf:=@Go.DataW.trod_string
abbrev ve:=@List.length_nil
abbrev Je:=@List.length_map
abbrev og:=@Go.World.ownsRow_nil
abbrev Ff:=@List.cons_append
abbrev Rl:=@List.getElem?_eq_some_iff
abbrev Ag:=@List.flatMap_cons
abbrev Ei:=@Go.World.cell?_alloc_lt
abbrev Aj:=@List.length_singleton
abbrev Cf:=@List.mem_append
abbrev je:=@List.mem_cons
abbrev Jh:=@Bool.false_ne_true
abbrev Hg:=@Option.getD_some
abbrev Qk:=@List.take_append_drop
abbrev Vg:=@Go.DataW.trod_int
abbrev mg:=@ByteArray.ext
abbrev ji:=@List.getElem_mem
abbrev Zh:=@UInt8.toNat_inj
abbrev qi:=@List.cons.injEq
abbrev Lj:=@List.length_drop
abbrev Pj:=@Bool.eq_false_iff
abbrev Bz:=@List.take_succ_eq_append_getElem
abbrev Nl:=@Go.Result.andThen_ok
abbrev Kq:=@Array.getElem?_eq_none
abbrev Yq:=@List.drop_of_length_le
abbrev Xk:=@Array.toList_inj
abbrev Ws:=@decide_eq_false_iff_not
abbrev jo:=@List.mem_singleton
abbrev Gl:=@List.map_append
abbrev zi:=@Go.Sem.run_bind
abbrev Vm:=@List.not_mem_nil
abbrev Vq:=@List.flatMap_append
abbrev Wn:=@of_decide_eq_true
abbrev Kw:=@Go.World.frozen?_alloc_old
abbrev Nq:=@List.mem_cons_self
abbrev qp:=@List.take_length
abbrev Oo:=@List.all_eq_true
abbrev jA:=@List.drop_eq_getElem_cons
abbrev Us:=@List.length_pos_iff
abbrev Rq:=@List.take_add_one
abbrev Jq:=@List.append_assoc
abbrev Zj:=@Nat.le_of_eq
abbrev Dp:=@List.all_append
abbrev Ym:=@List.cons.inj
abbrev Oq:=@Nat.min_eq_left
abbrev bn:=@Int.lt_or_le
abbrev su:=@Nat.lt_succ_self
abbrev lD:=@List.getElem?_take_of_lt
abbrev Zm:=@List.mem_map
abbrev VA:=@List.mem_of_mem_take
abbrev Yw:=@Nat.lt_trichotomy
abbrev uo:=@Go.Sem.run_pure
abbrev Xn:=@Nat.succ_mul
abbrev Vw:=@Nat.le_of_not_lt
abbrev vz:=@Go.RowKit.Below.heap_setCell
abbrev Dy:=@List.pairwise_cons
abbrev yt:=@List.mem_range
abbrev iC:=@List.eq_nil_or_concat
abbrev fC:=@List.concat_eq_append
abbrev Iq:=@Nat.add_zero
abbrev vw:=@Go.DataW.trod_bool
abbrev yw:=@List.mem_filter
abbrev Rw:=@List.foldl_cons
abbrev Az:=@List.getElem?_map
abbrev Ir:=@Go.Value.slice.injEq
abbrev qm:=@List.all_cons
abbrev Zu:=@List.map_congr_left
abbrev Yv:=@Array.length_toList
abbrev Lr:=@Go.RowKit.Below.heap_alloc
abbrev Wy:=@Option.map_eq_some_iff
abbrev Ku:=@Nat.eq_zero_or_pos
abbrev Ou:=@List.filter_append
abbrev Xu:=@List.getElem?_take
abbrev Hz:=@List.length_replicate
abbrev Au:=@Option.some.injEq
abbrev Iu:=@Go.World.ownsRow_lit
abbrev dA:=@Array.replicate_succ
abbrev Jy:=@Array.replicate_zero
abbrev aJ:=@ByteArray.getElem_eq_getElem_data
abbrev Yr:=@Go.run_underlying
abbrev JA:=@List.append_toArray
abbrev Hr:=@List.map_cons
abbrev yu:=@Option.map_some
abbrev Hy:=@List.find?_eq_none
abbrev Gv:=@List.append_nil
abbrev yA:=@of_decide_eq_false
abbrev fJ:=@List.take_append_of_le_length
abbrev yI:=@List.drop_append_of_le_length
abbrev KA:=@Int.toNat_natCast
abbrev yB:=@List.size_toArray
abbrev UA:=@List.push_toArray
abbrev Fv:=@Bool.and_false
abbrev NE:=@ByteArray.size_append
abbrev Zq:=@Go.Addr.add_lit
abbrev Qy:=@List.ext_getElem
abbrev Zo:=@beq_iff_eq
abbrev wE:=@Nat.mul_le_mul_right
abbrev YI:=@Nat.mod_two_eq_zero_or_one
abbrev rE:=@List.mem_map_of_mem
abbrev gJ:=@Array.getElem?_eq_getElem
abbrev VF:=@UInt8.toNat_ofNat'
abbrev Ju:=@List.map_map
abbrev qw:=@Go.wpList_plain
abbrev VD:=@Go.heap_setCell_other
abbrev UE:=@List.getElem?_drop
abbrev Uu:=@Nat.le_of_lt
abbrev Ov:=@Nat.zero_mul
abbrev Hu:=@Nat.sub_self
abbrev Qr:=@bne_iff_ne
abbrev fE:=@List.getElem_take
abbrev PE:=@List.foldl_append
abbrev Ny:=@Bool.and_true
abbrev OE:=@List.getElem_map
abbrev fF:=@List.mem_flatMap
abbrev IJ:=@List.length_filter_le
abbrev Tz:=@List.all_nil
abbrev yD:=@List.range_succ
abbrev qI:=@List.mem_of_mem_drop
abbrev CJ:=@List.getLastD_concat
abbrev lJ:=@Go.World.ownsRow.alloc
abbrev zJ:=@List.filter_eq_self
abbrev kJ:=@Go.World.grownBy_alloc
abbrev zD:=@List.drop_zero
abbrev vF:=@List.Perm.refl
abbrev mF:=@List.drop_drop
abbrev wP:=@List.takeWhile_append_of_pos
abbrev wR:=@List.dropWhile_append_of_pos
abbrev Rz:=@Nat.mul_one
abbrev dJ:=@Nat.add_sub_cancel
abbrev wJ:=@Go.World.ownsRow_made
abbrev lm:=@not_or
abbrev xQ:=@List.append_cancel_right_eq
abbrev ES:=@List.setIfInBounds_toArray
abbrev UR:=@List.mergeSort_of_pairwise
abbrev TP:=@List.eq_append_cons_of_mem
abbrev VT:=@Int.tmod_eq_emod_of_nonneg
abbrev FI:=@Bool.not_eq_true'
abbrev DJ:=@Nat.le_succ_of_le
abbrev tJ:=@Classical.not_not
abbrev yS:=@List.mem_of_find?_eq_some
abbrev xP:=@List.pairwise_iff_getElem
abbrev lQ:=@List.extract_eq_take_drop
abbrev RI:=@List.map_toArray
abbrev aF:=@List.map_nil
abbrev lF:=@UInt8.not_lt
abbrev nR:=@Option.isSome_iff_exists
abbrev oJ:=@Go.IntKind.wrap_i64
abbrev KP:=@Int.eq_ofNat_of_zero_le
abbrev ZQ:=@Nat.add_sub_cancel_left
abbrev UO:=@List.getElem?_cons_succ
abbrev rQ:=@List.getElem?_replicate
abbrev sJ:=@List.headD_cons
abbrev NI:=@Bool.eq_iff_iff
abbrev bJ:=@List.find?_some
abbrev xB:=@Go.run_store
abbrev rJ:=@Bool.or_eq_true
abbrev VI:=@UInt8.lt_irrefl
abbrev xE:=@List.map_id
abbrev sD:=@Nat.min_def
abbrev BI:=@Bool.false_and
abbrev QI:=@List.drop_take
abbrev OI:=@Bool.not_false
abbrev Ey:=@true_and
abbrev BJ:=@Bool.and_self
abbrev UI:=@Prod.mk.injEq
abbrev pJ:=@Bool.not_true
end Go.Proofs
namespace Go.Proofs.YtbgdfcmeheaiiaaGreatDoor
open Proofs.Tryz Go.RowKit
def w_(c:UInt8):Bool:=decide (48<=(c.toNat:Int)/\(c.toNat:Int)<=57)
def Rj(c:UInt8):Bool:=decide (33<=(c.toNat:Int)/\(c.toNat:Int)<=126)
def Y5(l:List UInt8):Bool:=decide (1<=l.length/\l.length<=20)&&l.all Rj
def rY(n:Int)(c:UInt8):Int:=n*10+((c.toNat:Int)-48)
def val(l:List UInt8):Int:=l.foldl rY 0
theorem Qe(l:List UInt8)(c:UInt8):val (l++[c])=val l*10+((c.toNat:Int)-48):=by simp[val,rY]
theorem Ae(c:UInt8):w_ c=true↔48<=(c.toNat:Int)/\(c.toNat:Int)<=57:=by simp[w_]
theorem jq(c:UInt8):Rj c=true↔33<=(c.toNat:Int)/\(c.toNat:Int)<=126:=by simp[Rj]
theorem Zt{P:List UInt8->Prop}(h0:P [])(h1:∀l c,P l->P (l++[c]))(l:List UInt8):P l:=by
 have h:∀r:List UInt8,P r.reverse:=λr=>by
  induction r with
  | nil=>exact h0
  | cons c r ih=>rw[List.reverse_cons];exact h1 _ _ ih
 have:=h l.reverse
 rwa[List.reverse_reverse]at this
theorem Em(l:List UInt8):l.all w_=true->0<=val l:=by
 refine Zt (P:=λl=>l.all w_=true->0<=val l) (by simp[val]) (λl c a h=>?_) l;rw[Dp]at h;simp only[qm,Tz,Ny,X_]at h;have:=a h.1;have hc:=(Ae c).1 h.2;rw[Qe];omega
theorem Ko(l:List UInt8):l.all w_=true->∀k,val (l.take k)<=val l:=by
 refine Zt (P:=λl=>l.all w_=true->∀k,val (l.take k)<=val l) (by simp[val]) (λl c a h k=>?_) l;rw[Dp]at h;simp only[qm,Tz,Ny,X_]at h;by_cases b:k<=l.length
 ·rw[fJ b,Qe];have:=a h.1 k;have h0:=Em l h.1;have hc:=(Ae c).1 h.2;omega
 rw[p_ X7];exact Int.le_refl _
def Yb(l:List UInt8):Bool:=!l.isEmpty&&!(l.headD 0==48&&!(l==[48]))
def Yd(l:List UInt8):Bool:=Yb l&&l.all w_&&decide (val l<=40)
def bC:Nat->Int->List UInt8
 | 0,_=>[]
 | f+1,n=>if n<10 then [UInt8.ofNat (48+n).toNat] else bC f (n / 10)++[UInt8.ofNat (48+n % 10).toNat]
def dec(n:Int):List UInt8:=bC (n.toNat+1) n
theorem uU(f g:Nat)(n:Int)(h0:0<=n)(hf:n.toNat<f)(hg:n.toNat<g):bC f n=bC g n:=by
 induction f generalizing g n with
 | zero=>omega
 | succ f ih=>
  cases g with
  | zero=>omega
  | succ g=>
   simp only[bC];by_cases h:n<10
   ·rw[D8 h,D8 h]
   rw[Y7 h,Y7 h,ih g (n / 10) O0 O0 O0]
theorem dec_lt(n:Int)(h:n<10):dec n=[UInt8.ofNat (48+n).toNat]:=by simp[dec,bC,h]
theorem Uo(n:Int)(h:10<=n):dec n=dec (n / 10)++[UInt8.ofNat (48+n % 10).toNat]:=by
 unfold dec;rw[bC,Y7 O0,uU n.toNat ((n / 10).toNat+1) (n / 10) O0 O0 O0]
theorem TI(n:Int):dec n≠[]:=by
 by_cases h:n<10
 ·rw[dec_lt n h];simp
 rw[Uo n O0];simp
theorem dN(c:UInt8)(h:w_ c=true):UInt8.ofNat (48+((c.toNat:Int)-48)).toNat=c:=by
 have:=(Ae c).1 h;rw[show(48+((c.toNat:Int)-48)).toNat=c.toNat by omega];exact UInt8.ofNat_toNat
theorem Yx(l:List UInt8):l.all w_=true->Yb l=true->dec (val l)=l/\(2<=l.length->10<=val l)/\(l.headD 0≠48->1<=val l):=by
 refine Zt (P:=λl=>l.all w_=true->Yb l=true->dec (val l)=l/\(2<=l.length->10<=val l)/\(l.headD 0≠48->1<=val l)) (by simp[Yb]) (λl c b h hl=>?_) l;rw[Dp]at h;simp only[qm,Tz,Ny,X_]at h;have hc:=(Ae c).1 h.2;have hd:=dN c h.2
 cases l with
 | nil=>
  have e:val ([]++[c])=(c.toNat:Int)-48:=by rw[Qe];simp[val]
  rw[e];refine⟨?_,O4,?_⟩
  ·rw[dec_lt _ O0,hd];rfl
  intro h1;simp at h1;have:c.toNat≠48:=λe=>h1 (by rw[<- Zh];exact e);omega
 | cons a r=>
  have ha:a≠48:=by
   intro e;subst e;simp[Yb]at hl
  have f:Yb (a::r)=true:=by simp[Yb,ha]
  obtain⟨h1,_,i⟩:=b h.1 f;have h4:=i (by simpa using ha);rw[Qe];have g:(val (a::r)*10+((c.toNat:Int)-48)) / 10=val (a::r):=O0;have d:(val (a::r)*10+((c.toNat:Int)-48)) % 10=(c.toNat:Int)-48:=O0;refine⟨?_,λ_=>O0,λ_=>O0⟩;rw[Uo _ O0,g,d,h1,hd]
theorem NH(f:Nat)(n:Int)(h0:0<=n)(hf:n.toNat<f):Yb (dec n)=true/\(1<=n->(dec n).headD 0≠48):=by
 induction f generalizing n with
 | zero=>omega
 | succ f ih=>
  by_cases h:n<10
  ·rw[dec_lt n h];obtain rfl|rfl|rfl|rfl|rfl|rfl|rfl|rfl|rfl|rfl:n=0\/n=1\/n=2\/n=3\/n=4\/n=5\/n=6\/n=7\/n=8\/n=9:=O0
   all_goals decide
  obtain⟨h1,h2⟩:=ih (n / 10) O0 O0;have c:=h2 O0;rw[Uo n O0];have b:=TI (n / 10);generalize dec (n / 10)=l at*
  cases l with
  | nil=>exact absurd rfl b
  | cons a r=>
   have ha:a≠48:=by simpa using c
   exact⟨by simp[Yb,ha],λ_=>by simpa using ha⟩
theorem Xw(l:List UInt8)(h:l.all w_=true)(hl:Yb l=true)(b:val l<=40):l.length<=2:=by
 rcases P7 2 l.length with h2|h2
 ·exfalso;rcases iC l with e|⟨r,c,e⟩
  ·subst e;simp at h2
  rw[fC]at e;subst e;rw[Dp]at h;simp only[qm,Tz,Ny,X_]at h;have hr:2<=r.length:=by simp at h2;omega
  cases r with
  | nil=>simp at hr
  | cons a r=>
   have ha:a≠48:=by
    intro e;subst e;simp[Yb]at hl
   have:=(Yx (a::r) h.1 (by simp[Yb,ha])).2.1 hr;have hc:=(Ae c).1 h.2;rw[Qe]at b;omega
 exact h2
theorem QR(f:Nat)(n:Int):(bC f n).length<=f:=by
 induction f generalizing n with
 | zero=>simp[bC]
 | succ f ih=>
  simp only[bC];by_cases h:n<10
  ·rw[D8 h];simp
  rw[Y7 h];have:=ih (n / 10);simp;omega
theorem qL(n:Int)(h:0<=n)(h1:n<=100000000):(dec n).length<=100000001:=by
 have:=QR (n.toNat+1) n;unfold dec;omega
theorem JS(n:Int)(h:0<=n)(h1:n<=100000000):IntKind.i64.wrap (n.tdiv 10)=n / 10:=by
 rw[Int.tdiv_eq_ediv_of_nonneg h];simp[IntKind.wrap,IntKind.signed,IntKind.bits];omega
end Go.Proofs.YtbgdfcmeheaiiaaGreatDoor
namespace Go.Proofs
open Go.Shelf
def Tryz.QH:Go.Shelf.Ren:=⟨λ| 145=>229|220=>283|219=>323|217=>337|225=>338|224=>339|267=>340|266=>366|314=>367|n=>n, λ| 9=>9|4=>4|59=>345|3=>3|5=>5|46=>374|146=>429|51=>428|n=>n, λ| 1=>5|n=>n⟩
theorem Tryz.lays145:Go.Proofs.Lays.n145 prog Tryz.QH:={
 mixed:=Y0
 f145:=func229.trans (U6 some Y0)
 f217:=func337.trans (U6 some Y0)
 f219:=func323.trans (U6 some Y0)
 f220:=func283.trans (U6 some Y0)
 f224:=func339.trans (U6 some Y0)
 f225:=func338.trans (U6 some Y0)
 f266:=func366.trans (U6 some Y0)
 f267:=func340.trans (U6 some Y0)
 f314:=func367.trans (U6 some Y0)
 t3:=underlying3
 a3:=Tryz.isAgg3
 z3:=Tryz.sizeOf3
 v3:=Tryz.zeroValue3
 t4:=underlying4
 a4:=Tryz.isAgg4
 z4:=Tryz.sizeOf4
 v4:=Tryz.zeroValue4
 t5:=underlying5
 a5:=Tryz.isAgg5
 z5:=Tryz.sizeOf5
 v5:=Tryz.zeroValue5
 t9:=underlying9
 a9:=Tryz.isAgg9
 z9:=Tryz.sizeOf9
 v9:=Tryz.zeroValue9
 t46:=underlying374
 a46:=Tryz.isAgg374
 z46:=Tryz.sizeOf374
 v46:=Tryz.zeroValue374
 t51:=underlying428
 a51:=Tryz.isAgg428
 z51:=Tryz.sizeOf428
 v51:=Tryz.zeroValue428
 t59:=underlying345
 a59:=Tryz.isAgg345
 z59:=Tryz.sizeOf345
 v59:=Tryz.zeroValue345
 t146:=underlying429
 a146:=Tryz.isAgg429
 z146:=Tryz.sizeOf429
 v146:=Tryz.zeroValue429
 g1:=by kernel_rfl }
theorem Tryz.strings_Cut(s a:BY)(m:Int)(w:World)(b:s.size<4294967281)(hm:w.cell? ⟨5,0,none⟩=some (.int .i64 m)):
 Calls prog 229 #[.string s,.string a] w λe w'=>e=.returned (.tuple #[.string ⟨(Lib.cut s.data.toList a.data.toList).1.toArray⟩,.string ⟨(Lib.cut s.data.toList a.data.toList).2.1.toArray⟩,.bool (Lib.cut s.data.toList a.data.toList).2.2])/\∃n,w'=w.drewN n:=Any.strings_Cut Tryz.lays145 s a m w b hm
end Go.Proofs
namespace Go.Proofs.YtbgdfcmeheaiiaaGreatDoor
open Proofs.Tryz Go.RowKit
def hstep(x:Int)(c:UInt8):Int:=IntKind.u64.wrap (bits BinOp.xor IntKind.u64 x (IntKind.u64.wrap (c.toNat:Int))*1099511628211)
def hsum(l:List UInt8):Int:=l.foldl hstep 14695981039346656037
theorem Iz(x:Int):0<=IntKind.u64.wrap x/\IntKind.u64.wrap x<=18446744073709551615:=by
 simp[IntKind.wrap,IntKind.signed,IntKind.bits];omega
theorem Gj(l:List UInt8):0<=hsum l/\hsum l<=18446744073709551615:=by
 unfold hsum;rcases iC l with h|⟨l',c,h⟩
 ·subst h;simp
 subst h;simp only[fC,PE,Rw,List.foldl_nil];exact Iz _
theorem kC(l:List UInt8)(c:UInt8):hsum (l++[c])=hstep (hsum l) c:=by simp[hsum]
theorem take_snoc(s:BY)(k:Nat)(h:k<s.size):s.data.toList.take (k+1)=s.data.toList.take k++[s[k]]:=by
 rw[Bz (by simpa using h)];rfl
def JU(v:Int):Nat->Int
 | 0=>v
 | k+1=>JU v k / 256
def outs(v:Int):Nat->List Int
 | 0=>[]
 | k+1=>(JU v k % 256)::outs v k
theorem Vo(v:Int)(k:Nat):(outs v k).length=k:=by induction k with
 | zero=>rfl
 | succ k ih=>simp[outs,ih]
theorem jD(v:Int)(h0:0<=v)(h1:v<=18446744073709551615)(k:Nat):0<=JU v k/\JU v k<=18446744073709551615:=by
 induction k with
 | zero=>exact⟨h0,h1⟩
 | succ k ih=>simp only[JU];omega
theorem xU(x:Int)(l:List Int):strOfNums [x]++strOfNums l=strOfNums (x::l):=by
 apply mg;simp[strOfNums]
def kc(X:Int)(k j:Nat):Int:=if 8<=j+k then JU X (7-j) % 256 else 0
theorem xX(X:Int)(j:Nat)(_h:j<8):kc X 0 j=0:=by unfold kc;rw[if_neg O0]
theorem gV(X:Int)(k:Nat)(h:k<8):kc X (k+1) (7-k)=JU X k % 256:=by
 unfold kc;rw[if_pos O0];congr 2;omega
theorem EU(X:Int)(k j:Nat)(_h:k<8)(_hj:j<8)(hne:j≠7-k):kc X (k+1) j=kc X k j:=by
 unfold kc;by_cases h1:8<=j+k
 ·rw[D8 O0,D8 h1]
 rw[Y7 O0,Y7 h1]
theorem aO(X:Int)(k i:Nat)(h:i<k):(outs X k).getD i 0=JU X (k-1-i) % 256:=by
 induction k generalizing i with
 | zero=>omega
 | succ k ih=>
  cases i with
  | zero=>simp[outs]
  | succ i=>
   simp only[outs,List.getD_cons_succ];rw[ih i O0]
   congr 2
   omega
theorem DW(X:Int)(k i:Nat)(hk:k<=8)(h:i<k):kc X k (8-k+i)=(outs X k).getD i 0:=by
 rw[aO X k i h];unfold kc;rw[D8 O0]
 congr 2
 omega
theorem Np{k:IntKind}{a b:Int}(h:a=b):Ending.returned (.int k a)=.returned (.int k b):=by rw[h]
theorem a4O(s:BY)(w:World)(hs:s.size<=1048700):
 Calls prog 315 #[.string s] w λe w'=>e=.returned (.int .u64 (hsum s.data.toList))/\w'=w:=by
 go_in
 go_wp2;go_loop[3,4] (λv i=>∃k:Nat,k<=s.size/\i=.int .i64 k/\v=.int .u64 (hsum (s.data.toList.take k))) (λ_ i=>s.size-(RowKit.intOf i).toNat);exact⟨0,I4 _,rfl,rfl⟩;obtain⟨k,hk,rfl,rfl⟩:=hrel;have hx:=Gj (s.data.toList.take k);by_cases a:k<s.size
 ·have b:Hid (hsum (s.data.toList.take (k+1))=hstep (hsum (s.data.toList.take k)) s[k]):=by rw[take_snoc s k a];exact kC _ _
  go_wp2
  go_round
  exact⟨k+1,O0,by go_num,by rw[b.out];rfl⟩;exact P9
 go_wp2;go_ret;exact⟨Np (by rw[p_ X7]),rfl⟩
theorem a4a(s:BY)(w:World)(hs:s.size<=1048700):
 Calls prog 284 #[.string s] w λe w'=>e=.returned (.int .u64 (hsum s.data.toList))/\w'=w:=by
 go_in
 go_wp2;go_loop[3,7] (λv i=>∃k:Nat,k<=s.size/\i=.int .i64 k/\v=.int .u64 (hsum (s.data.toList.take k))) (λ_ i=>s.size-(RowKit.intOf i).toNat);exact⟨0,I4 _,rfl,rfl⟩;obtain⟨k,hk,rfl,rfl⟩:=hrel;have hx:=Gj (s.data.toList.take k);by_cases a:k<s.size
 ·have b:Hid (hsum (s.data.toList.take (k+1))=hstep (hsum (s.data.toList.take k)) s[k]):=by rw[take_snoc s k a];exact kC _ _
  go_wp2
  go_round
  exact⟨k+1,O0,by go_num,by rw[b.out];rfl⟩;exact P9
 go_wp2;go_ret;exact⟨Np (by rw[p_ X7]),rfl⟩
theorem TR(u:World)(y:Int):(convert 258 9 (.slice (some ⟨u.heap.size,0,none⟩) 1 1)).run prog (u.alloc (.cells #[.int .u8 y] 5))=.ok (.string (strOfNums [y])) (u.alloc (.cells #[.int .u8 y] 5)):=
 run_convert_bytes_arg _ 258 5 underlying258 underlying5 _ 0 1 1 [y] rfl (λi hi=>by
  obtain rfl:i=0:=O0;simp) 9 underlying9
theorem a3i(v:Int)(n:Nat)(w:World)(d:0<=v)(c:v<=18446744073709551615)(hn:n<=8):
 Calls prog 314 #[.int .u64 v,.int .i64 n] w λe w'=>e=.returned (.string (strOfNums (outs v n)))/\Bw w w':=by
 have hcv:=TR;have hz:∀y,(strOfNums [y]).size=1:=λy=>strOfNums_size [y]
 go_in
 go_wp2;go_loopw[0,5,6] (λa o i wr=>∃k:Nat,k<=n/\i=.int .i64 k/\a=.int .u64 (JU v k)/\o=.string (strOfNums (outs v k))/\Below w.heap.size w wr) (λ_ _ i _=>n-(RowKit.intOf i).toNat);exact⟨0,I4 _,rfl,rfl,rfl,J4 _ _⟩;obtain⟨k,hk,rfl,rfl,rfl,b⟩:=hrel;have hx:=jD v d c k;have hq:(strOfNums (outs v k)).size=k:=by rw[strOfNums_size,Vo]
 by_cases hlt:k<n
 ·go_wp2;go_roundw;exact⟨k+1,O0,by go_num,rfl,by rw[xU];rfl,b.alloc b.size _⟩;exact P9
 go_wp2;go_ret;obtain rfl:k=n:=O0;exact⟨rfl,b⟩
theorem a4s(s:BY)(n:Nat)(w:World)(hn:n<=8)(g:s.size<=1048700):
 Calls prog 231 #[.string s,.int .i64 n] w λe w'=>(∃X,X=hsum s.data.toList/\e=.returned (.agg #[.int .u8 (kc X n 0),.int .u8 (kc X n 1),.int .u8 (kc X n 2),.int .u8 (kc X n 3),.int .u8 (kc X n 4),.int .u8 (kc X n 5),.int .u8 (kc X n 6),.int .u8 (kc X n 7)]))/\Bw w w':=by
 go_in
 go_wp2_with fail
 refine(a4a _ _ g).mono ?_;rintro e w'⟨rfl,rfl⟩;have hx:=Gj s.data.toList;generalize hX:hsum s.data.toList=X at*;have z:=U0 hX.symm;clear hX;go_wp2;go_loopw[6,11] (λa i wr=>∃k:Nat,k<=n/\i=.int .i64 k/\a=.int .u64 (JU X k)/\Below w.heap.size w wr/\w.heap.size+2<=wr.heap.size/\(∀j,j<8->wr.cell? ⟨w.heap.size+1,j,none⟩=some (.int .u8 (kc X k j)))/\(∀j,wr.frozen? ⟨w.heap.size+1,j,none⟩=false)/\(∀j,j<8->wr.cell? ⟨w.heap.size,j,none⟩=some (.int .u8 0))/\(∀j,wr.frozen? ⟨w.heap.size,j,none⟩=false)) (λ_ i _=>n-(RowKit.intOf i).toNat)
 case atStart=>
  refine⟨0,I4 _,rfl,rfl,P6.alloc O4 _,O4,?_,?_,?_,?_⟩
  ·intro j b;rw[xX X j b];rcases j with _|_|_|_|_|_|_|_|j<;>first|omega|simp
  ·intro j;simp
  ·intro j b;rcases j with _|_|_|_|_|_|_|_|j<;>first|omega|simp
  intro j;simp
 obtain⟨k,hk,rfl,rfl,c,f,h1,d,h0,l⟩:=hrel;have hx:=jD X hx.1 hx.2 k;by_cases hlt:k<n
 ·have g1:=h1 (7-k) O0;have g2:=d (7-k);go_wp2;go_roundw
  ·refine⟨k+1,O0,by go_num,rfl,c.setCell O4 _,by simpa using f,?_,?_,?_,?_⟩
   ·intro j b;by_cases e:j=7-k
    ·subst e;rw[gV X k O0];exact ng _ _ _ g1
    rw[EU X k j O0 b e,<- h1 j b];exact Qa _ _ _ _ (by intro h;injection h with h1 h2;exact e h2.symm)
   ·intro j;rw[<- d j];simp
   ·intro j b;rw[<- h0 j b];exact Qa _ _ _ _ O4
   intro j;rw[<- l j];simp
  exact P9
 have a0:=h1 0 O0;have a1:=h1 1 O0;have a2:=h1 2 O0;have a3:=h1 3 O0;have a4:=h1 4 O0;have a5:=h1 5 O0;have a6:=h1 6 O0;have a7:=h1 7 O0;have b0:=h0 0 O0;have y:=h0 1 O0;have t:=h0 2 O0;have r:=h0 3 O0;have q:=h0 4 O0;have p:=h0 5 O0;have o:=h0 6 O0;have m:=h0 7 O0;clear h1 h0;go_wp2;obtain rfl:k=n:=O0;refine o7 (v:=.agg #[.int .u8 (kc X k 0),.int .u8 (kc X k 1),.int .u8 (kc X k 2),.int .u8 (kc X k 3),.int .u8 (kc X k 4),.int .u8 (kc X k 5),.int .u8 (kc X k 6),.int .u8 (kc X k 7)]) (by simp[results,results231,go_sem,b0,y,t,r,q,p,o,m]) rfl ⟨⟨X,z.out,rfl⟩,?_⟩;have st:∀(u:World)(j:Nat)(x:Value),Bw w u->Bw w (u.setCell (aW w j) x):=λu j x h=>h.setCell Y8 x
 iterate 8 refine st _ _ _ ?_
 exact c
def G6(s:BY)(n:Int):BY:=if 1<=n/\n<=8 then strOfNums (outs (hsum s.data.toList) n.toNat) else ByteArray.empty
theorem c15(n l h:Int)(w:World):
 Calls prog 15 #[.int .i64 n,.int .i64 l,.int .i64 h] w λe w'=>e=.returned (.bool (decide (l<=n/\n<=h)))/\w'=w:=by
 by_cases h1:l<=n<;>by_cases h2:n<=h
 all_goals
  go_in
  go_wp2
  all_goals go_ret
  all_goals exact⟨by simp[*],rfl⟩
theorem IX(n:Int)(w:World):
 Calls prog 38 #[.int .i64 n] w λe w'=>e=.returned (.bool (decide (1<=n/\n<=8)))/\w'=w:=by
 go_in
 go_wp2_with(go_at_call 15;refine(c15 _ _ _ _).mono ?_;rintro e w'⟨rfl,rfl⟩)
 go_ret;exact⟨O4,rfl⟩
theorem QU(n:Int)(w:World):
 Calls prog 114 #[.int .i64 n] w λe w'=>e=.returned (.bool (decide (1<=n/\n<=8)))/\w'=w:=by
 by_cases h1:1<=n<;>by_cases h2:n<=8
 all_goals
  go_in
  go_wp2
  all_goals go_ret
  all_goals exact⟨by simp[*],rfl⟩
theorem OB(s:BY)(n:Int)(w:World)(b:s.size<=1048700):
 Calls prog 268 #[.string s,.int .i64 n] w λe w'=>e=.returned (.string (G6 s n))/\Bw w w':=by
 by_cases h:1<=n/\n<=8
 ·have hd:decide (1<=n/\n<=8)=true:=by simpa using h
  have hx:=Gj s.data.toList;obtain⟨k,rfl⟩:=KP (show 0<=n by omega);have a:Hid (G6 s k=strOfNums (outs (hsum s.data.toList) k)):=by unfold G6;rw[if_pos h];rfl
  go_in
  go_wp2_with fail
  refine(IX _ _).mono ?_;rintro e w'⟨rfl,rfl⟩;rw[hd]
  go_wp2_with fail
  refine(a4O _ _ b).mono ?_;rintro e w'⟨rfl,rfl⟩
  go_wp2_with fail
  refine(a3i _ _ _ hx.1 hx.2 O0).mono ?_;rintro e w'⟨rfl,c⟩;go_wp2;go_ret;exact⟨by rw[a.out];rfl,c⟩
 have hd:decide (1<=n/\n<=8)=false:=by simpa using h
 have a:Hid (G6 s n=ByteArray.empty):=by unfold G6;rw[if_neg h];rfl
 go_in
 go_wp2_with fail
 refine(IX _ _).mono ?_;rintro e w'⟨rfl,rfl⟩;rw[hd];go_wp2;go_ret;exact⟨by rw[a.out];rfl,J4 _ _⟩
theorem a3E(u:World)(b k:Nat)(h1:1<=k)(h2:k<=8):
 (Instr.sliceAt 349 (.pointer (some ⟨b,0,none⟩)) (some (.int .i64 (8-(k:Int)))) none none).run prog u=.ok (.slice (some ⟨b,8-k,none⟩) k k) u:=by
 obtain rfl|rfl|rfl|rfl|rfl|rfl|rfl|rfl:k=1\/k=2\/k=3\/k=4\/k=5\/k=6\/k=7\/k=8:=O0
 all_goals kernel_rfl
theorem a2L(u:World)(X:Int)(k:Nat)(h2:k<=8):
 (convert 258 9 (.slice (some ⟨u.heap.size,8-k,none⟩) k k)).run prog (u.alloc (.cells #[.int .u8 (kc X k 0),.int .u8 (kc X k 1),.int .u8 (kc X k 2),.int .u8 (kc X k 3),.int .u8 (kc X k 4),.int .u8 (kc X k 5),.int .u8 (kc X k 6),.int .u8 (kc X k 7)] 349))
  =.ok (.string (strOfNums (outs X k))) (u.alloc (.cells #[.int .u8 (kc X k 0),.int .u8 (kc X k 1),.int .u8 (kc X k 2),.int .u8 (kc X k 3),.int .u8 (kc X k 4),.int .u8 (kc X k 5),.int .u8 (kc X k 6),.int .u8 (kc X k 7)] 349)):=
 run_convert_bytes_arg _ 258 5 underlying258 underlying5 _ (8-k) k k (outs X k) (Vo X k) (λi b=>by
  rw[<- DW X k i h2 b];have a:8-k+i<8:=O0;generalize 8-k+i=j at a ⊢;obtain rfl|rfl|rfl|rfl|rfl|rfl|rfl|rfl:j=0\/j=1\/j=2\/j=3\/j=4\/j=5\/j=6\/j=7:=O0
  all_goals simp) 9 underlying9
theorem c167(s:BY)(n:Int)(w:World)(f:s.size<=1048700):
 Calls prog 167 #[.string s,.int .i64 n] w λe w'=>e=.returned (.string (G6 s n))/\Bw w w':=by
 by_cases h:1<=n/\n<=8
 ·have hd:decide (1<=n/\n<=8)=true:=by simpa using h
  have hx:=Gj s.data.toList;obtain⟨k,rfl⟩:=KP (show 0<=n by omega);have a:Hid (G6 s k=strOfNums (outs (hsum s.data.toList) k)):=by unfold G6;rw[if_pos h];rfl
  go_in
  go_wp2_with fail
  refine(QU _ _).mono ?_;rintro e w'⟨rfl,rfl⟩;rw[hd]
  go_wp2_with fail
  refine(a4s _ _ _ O0 f).mono ?_;rintro e w'⟨⟨X,d,rfl⟩,c⟩;have g:=U0 d;clear d;have g1:=λ(u:World) (b:Nat)=>a3E u b k O0 O0;have g2:=λ(u:World)=>a2L u X k O0;go_wp2;go_ret;exact⟨by rw[a.out,<- g.out];rfl,c.alloc c.size _⟩
 have hd:decide (1<=n/\n<=8)=false:=by simpa using h
 have a:Hid (G6 s n=ByteArray.empty):=by unfold G6;rw[if_neg h];rfl
 go_in
 go_wp2_with fail
 refine(QU _ _).mono ?_;rintro e w'⟨rfl,rfl⟩;rw[hd];go_wp2;go_ret;exact⟨by rw[a.out];rfl,J4 _ _⟩
