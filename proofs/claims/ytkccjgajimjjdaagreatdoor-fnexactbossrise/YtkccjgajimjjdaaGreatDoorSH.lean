import Derived.Test.YtkccjgajimjjdaaGreatDoorProg
import Derived.Below
import Derived.WalkKit
import Derived.Laws.BytesArg
import Derived.WalkSpells
import Derived.WalkLawsBesides
import Derived.Shelf.Strings.Cut
set_option linter.unusedVariables false
set_option maxHeartbeats 8000000
set_option maxRecDepth 100000
namespace Go.Proofs
variable{p:Prop}{u v w:World}{n:Nat}
theorem U0(h:p):Go.RowKit.Hid p:=h
theorem Y6{o:Obj}:Go.RowKit.Below w.heap.size w (w.alloc o):=(Go.RowKit.Below.refl _ _).alloc (Nat.le_refl _) _
theorem J5(h:Go.RowKit.Below w.heap.size w u)(k:Go.RowKit.Below u.heap.size u v):Go.RowKit.Below w.heap.size w v:=h.trans (k.mono h.size)
theorem O0(h:p:=by omega):p:=h
theorem Q8(h:p:=by simp;omega):p:=h
theorem E5(h:p:=by simp):p:=h
theorem Z5(h:p:=by decide):p:=h
theorem Y1(h:p:=by kernel_rfl):p:=h
theorem X7:n<=n:=Nat.le_refl n
theorem Z9(h:p:=by simp[Go.RowKit.intOf];omega):p:=h
@[go_sem] abbrev vI(x:Int):Value:=.int .i64 x
@[go_sem] abbrev vS(x:ByteArray):Value:=.string x
@[go_sem] abbrev vL(a:Option Addr)(n c:Nat):Value:=.slice a n c
@[go_sem] abbrev vN:Value:=.slice none 0 0
@[go_sem] abbrev vE:Value:=.string ⟨#[]⟩
@[go_sem] abbrev vO:Value:=.int .i64 0
@[go_sem] abbrev aA(b o:Nat):Addr:=⟨b,o,none⟩
@[go_sem] abbrev aW(w:World)(o:Nat):Addr:=⟨w.heap.size,o,none⟩
abbrev BY:=ByteArray
abbrev LB:=List ByteArray
abbrev OA:=Option Addr
abbrev Bw(w w':World):Prop:=Go.RowKit.Below w.heap.size w w'
theorem YD(h:Bw u v)(e:u.heap.size=n:=by simp<;>rfl):Go.RowKit.Below n u v:=e▸h
theorem gz:(∀{α:Type}(a:α)(l:List α),(a::l)[0]?=some a)/\∀{α:Type}(a:α)(l:List α)(i:Nat),(a::l)[i+1]?=l[i]?:=⟨λ_ _=>rfl,λ_ _ _=>rfl⟩
theorem Jd{α:Type}{l:List α}{k:Nat}{P:Prop}(h:l=[]\/P)(hk:k<l.length):P:=h.elim (λe=>by rw[e]at hk;exact absurd hk (Nat.not_lt_zero _)) id
abbrev J4:=@Nat.zero_le
abbrev G5:=@Go.RowKit.Below.refl
abbrev L9:=@List.getElem?_eq_getElem
abbrev P9:=@List.length_append
abbrev y9:=@Nat.not_lt_zero
abbrev U9:=@Nat.lt_of_lt_of_le
abbrev D8:=@Nat.lt_or_ge
abbrev I8:=@Nat.le_trans
abbrev o9:=@Nat.zero_add
abbrev l7:=@congrArg
abbrev Q7:=@Go.bodyPost_ret
abbrev G_:=@List.getElem?_append_left
abbrev C_:=@List.take_of_length_le
abbrev Eb:=@Array.getElem?_eq_some_iff
abbrev J8:=@Nat.le_refl
abbrev Xb:=@Go.World.cell?_setCell_other
abbrev H_:=@List.getElem?_set_ne
abbrev Qb:=@List.length_eq_zero_iff
abbrev j_:=@List.nil_append
abbrev u_:=@List.length_cons
abbrev Cb:=@Nat.le_of_ble_eq_true
abbrev V_:=@beq_eq_false_iff_ne
abbrev o_:=@decide_eq_false
abbrev Zb:=@List.getElem?_eq_none
abbrev Ue:=@List.getElem?_append_right
abbrev Y_:=@Go.World.ownsRow_nil
abbrev I_:=@Option.some.inj
abbrev U_:=@List.length_take
abbrev Ia:=@Bool.and_eq_true
abbrev X_:=@decide_eq_true
abbrev Pg:=@Go.World.cell?_setCell_same
abbrev Y7:=@if_neg
abbrev Ze:=@List.getElem_of_mem
abbrev L8:=@if_pos
abbrev rf:=@decide_eq_true_eq
abbrev Og:=@List.mem_cons_of_mem
abbrev Zi:=@List.getElem?_eq_some_iff
abbrev Sj:=@List.getD_eq_getElem?_getD
abbrev Td:=@List.length_nil
abbrev Cf:=@List.length_map
abbrev Hg:=@List.flatMap_cons
abbrev Zf:=@List.cons_append
abbrev Aj:=@Go.World.cell?_alloc_lt
abbrev Oj:=@List.length_singleton
abbrev Xe:=@List.mem_cons
abbrev jh:=@Option.getD_some
abbrev Ji:=@Bool.eq_false_iff
abbrev Xf:=@ByteArray.ext
abbrev um:=@List.take_append_drop
abbrev Ik:=@Bool.false_ne_true
abbrev Dk:=@List.mem_singleton
abbrev Dh:=@List.mem_append
abbrev Po:=@List.getElem?_set_self
abbrev Rl:=@List.length_pos_iff
abbrev Qp:=@Array.getElem?_eq_none
abbrev Wi:=@UInt8.toNat_inj
abbrev Xi:=@List.cons.injEq
abbrev jk:=@List.length_drop
abbrev qj:=@List.length_set
abbrev Zj:=@List.getElem_mem
abbrev Io:=@Nat.mul_le_mul_right
abbrev uh:=@Nat.le_of_eq
abbrev Dl:=@Nat.lt_succ_self
abbrev Gz:=@List.take_succ_eq_append_getElem
abbrev Am:=@Go.Result.andThen_ok
abbrev Es:=@List.drop_of_length_le
abbrev Rk:=@List.map_append
abbrev Zl:=@Array.toList_inj
abbrev ru:=@decide_eq_false_iff_not
abbrev Eo:=@Go.DataW.trod_string
abbrev Ho:=@List.not_mem_nil
abbrev Qs:=@List.flatMap_append
abbrev qx:=@Go.World.frozen?_alloc_old
abbrev Vr:=@List.mem_cons_self
abbrev Tj:=@Nat.succ_mul
abbrev Yp:=@List.all_eq_true
abbrev YA:=@List.drop_eq_getElem_cons
abbrev Yr:=@List.take_add_one
abbrev Zr:=@List.append_assoc
abbrev jA:=@List.getElem?_take_of_lt
abbrev zl:=@List.mem_map
abbrev Np:=@List.all_append
abbrev Ns:=@List.take_length
abbrev Js:=@Nat.le_of_not_lt
abbrev Ko:=@List.cons.inj
abbrev Ip:=@List.mem_range
abbrev Zw:=@Array.length_toList
abbrev Sr:=@Nat.min_eq_left
abbrev Oo:=@Int.lt_or_le
abbrev Qo:=@Nat.add_zero
abbrev Ox:=@Go.RowKit.Below.heap_setCell
abbrev Lm:=@Nat.mul_one
abbrev Ur:=@Go.DataW.trod_int
abbrev zA:=@List.mem_of_mem_take
abbrev Uw:=@Nat.lt_trichotomy
abbrev Tz:=@List.map_congr_left
abbrev Zp:=@Go.Sem.run_pure
abbrev Hz:=@List.pairwise_cons
abbrev vC:=@List.eq_nil_or_concat
abbrev WC:=@List.concat_eq_append
abbrev Iq:=@List.mem_filter
abbrev pq:=@List.foldl_cons
abbrev Rt:=@List.getElem?_map
abbrev Xt:=@Go.Value.slice.injEq
abbrev Xm:=@List.all_cons
abbrev Ht:=@Go.RowKit.Below.heap_alloc
abbrev WB:=@Option.map_eq_some_iff
abbrev Jw:=@Nat.eq_zero_or_pos
abbrev Zu:=@List.filter_append
abbrev Gw:=@List.getElem?_take
abbrev Bo:=@Go.Addr.add_lit
abbrev bn:=@Classical.em
abbrev Ot:=@List.append_nil
abbrev Vz:=@List.length_replicate
abbrev Fp:=@List.map_cons
abbrev iw:=@Option.some.injEq
abbrev Tv:=@Go.World.ownsRow_lit
abbrev qA:=@Array.replicate_succ
abbrev aB:=@Array.replicate_zero
abbrev yJ:=@ByteArray.getElem_eq_getElem_data
abbrev Ws:=@Go.run_underlying
abbrev Gv:=@List.mem_flatMap
abbrev Oz:=@List.append_toArray
abbrev Iw:=@Option.map_some
abbrev IA:=@List.find?_eq_none
abbrev II:=@List.take_append_of_le_length
abbrev JJ:=@List.drop_append_of_le_length
abbrev wB:=@Int.toNat_natCast
abbrev Zy:=@List.size_toArray
abbrev UA:=@List.push_toArray
abbrev Pv:=@Bool.and_false
abbrev Vt:=@Nat.le_of_lt
abbrev dB:=@List.ext_getElem
abbrev Gp:=@beq_iff_eq
abbrev JF:=@List.mem_append_left
abbrev Kv:=@Nat.add_assoc
abbrev ZI:=@Nat.mod_two_eq_zero_or_one
abbrev dF:=@List.mem_map_of_mem
abbrev Uy:=@List.range_succ
abbrev oK:=@Array.getElem?_eq_getElem
abbrev eF:=@UInt8.toNat_ofNat'
abbrev Nw:=@List.map_map
abbrev Qv:=@Go.wpList_plain
abbrev XF:=@Go.heap_setCell_other
abbrev fF:=@List.getElem?_drop
abbrev Wv:=@Nat.zero_mul
abbrev XJ:=@Option.isSome_iff_exists
abbrev Xu:=@Nat.sub_self
abbrev Yt:=@bne_iff_ne
abbrev lF:=@List.getElem_take
abbrev jG:=@List.foldl_append
abbrev MB:=@Bool.and_true
abbrev DF:=@List.getElem_map
abbrev wE:=@List.flatMap_def
abbrev Ym:=@Ne.symm
abbrev pJ:=@List.mem_append_right
abbrev WJ:=@List.length_filter_le
abbrev jK:=@ByteArray.size_append
abbrev yB:=@List.all_nil
abbrev qJ:=@List.mem_of_mem_drop
abbrev MJ:=@List.getLastD_concat
abbrev QI:=@Go.World.ownsRow.alloc
abbrev VI:=@List.filter_eq_self
abbrev tJ:=@Go.World.grownBy_alloc
abbrev OE:=@List.drop_zero
abbrev YE:=@List.Perm.refl
abbrev XE:=@List.drop_drop
abbrev XQ:=@List.takeWhile_append_of_pos
abbrev nR:=@List.dropWhile_append_of_pos
abbrev jJ:=@Nat.add_sub_cancel
abbrev dK:=@Go.World.ownsRow_made
abbrev zo:=@not_or
abbrev kU:=@List.append_cancel_right_eq
abbrev MQ:=@List.setIfInBounds_toArray
abbrev CQ:=@List.mergeSort_of_pairwise
abbrev ZP:=@List.eq_append_cons_of_mem
abbrev XT:=@Int.tmod_eq_emod_of_nonneg
abbrev UJ:=@Bool.not_eq_true'
abbrev kK:=@Nat.le_succ_of_le
abbrev CJ:=@Classical.not_not
abbrev nK:=@of_decide_eq_true
abbrev qP:=@List.mem_of_find?_eq_some
abbrev xQ:=@List.pairwise_iff_getElem
abbrev RU:=@List.extract_eq_take_drop
abbrev SI:=@List.map_toArray
abbrev VF:=@List.map_nil
abbrev qF:=@UInt8.not_lt
abbrev bG:=@Nat.mul_comm
abbrev BJ:=@Go.IntKind.wrap_i64
abbrev aU:=@Int.eq_ofNat_of_zero_le
abbrev DR:=@Nat.add_sub_cancel_left
abbrev bU:=@List.getElem?_cons_succ
abbrev VU:=@List.getElem?_replicate
abbrev vJ:=@List.headD_cons
abbrev DJ:=@Go.DataW.trod_bool
abbrev nJ:=@List.find?_some
abbrev kJ:=@Bool.or_eq_true
abbrev iK:=@UInt8.lt_irrefl
abbrev aK:=@Int.natCast_add
abbrev fJ:=@Nat.div_add_mod
abbrev PD:=@List.map_id
abbrev BF:=@Int.le_refl
abbrev aF:=@Nat.min_def
abbrev OI:=@Bool.false_and
abbrev RJ:=@List.drop_take
abbrev UI:=@Bool.not_false
abbrev Rz:=@true_and
abbrev KE:=@Nat.mod_lt
abbrev YJ:=@Bool.and_self
abbrev KJ:=@Prod.mk.injEq
abbrev OJ:=@Bool.not_true
end Go.Proofs
namespace Go.Proofs.YtkccjgajimjjdaaGreatDoor
open Proofs.Tryz Go.RowKit
def hstep(x:Int)(c:UInt8):Int:=IntKind.u64.wrap (bits BinOp.xor IntKind.u64 x (IntKind.u64.wrap (c.toNat:Int))*1099511628211)
def hsum(l:List UInt8):Int:=l.foldl hstep 14695981039346656037
theorem SA(x:Int):0<=IntKind.u64.wrap x/\IntKind.u64.wrap x<=18446744073709551615:=by
 simp[IntKind.wrap,IntKind.signed,IntKind.bits];omega
theorem Qj(l:List UInt8):0<=hsum l/\hsum l<=18446744073709551615:=by
 unfold hsum;rcases vC l with h|⟨l',c,h⟩
 ·subst h;simp
 subst h;simp only[WC,jG,pq,List.foldl_nil];exact SA _
theorem XC(l:List UInt8)(c:UInt8):hsum (l++[c])=hstep (hsum l) c:=by simp[hsum]
theorem take_snoc(s:BY)(k:Nat)(h:k<s.size):s.data.toList.take (k+1)=s.data.toList.take k++[s[k]]:=by
 rw[Gz (by simpa using h)];rfl
def kV(v:Int):Nat->Int
 | 0=>v
 | k+1=>kV v k / 256
def outs(v:Int):Nat->List Int
 | 0=>[]
 | k+1=>(kV v k % 256)::outs v k
theorem Xp(v:Int)(k:Nat):(outs v k).length=k:=by induction k with
 | zero=>rfl
 | succ k ih=>simp[outs,ih]
theorem mD(v:Int)(h0:0<=v)(h1:v<=18446744073709551615)(k:Nat):0<=kV v k/\kV v k<=18446744073709551615:=by
 induction k with
 | zero=>exact⟨h0,h1⟩
 | succ k ih=>simp only[kV];omega
theorem EP(x:Int)(l:List Int):strOfNums [x]++strOfNums l=strOfNums (x::l):=by
 apply Xf;simp[strOfNums]
def kc(X:Int)(k j:Nat):Int:=if 8<=j+k then kV X (7-j) % 256 else 0
theorem LY(X:Int)(j:Nat)(_h:j<8):kc X 0 j=0:=by unfold kc;rw[if_neg O0]
theorem tX(X:Int)(k:Nat)(h:k<8):kc X (k+1) (7-k)=kV X k % 256:=by
 unfold kc;rw[if_pos O0];congr 2;omega
theorem TR(X:Int)(k j:Nat)(_h:k<8)(_hj:j<8)(hne:j≠7-k):kc X (k+1) j=kc X k j:=by
 unfold kc;by_cases h1:8<=j+k
 ·rw[L8 O0,L8 h1]
 rw[Y7 O0,Y7 h1]
theorem AO(X:Int)(k i:Nat)(h:i<k):(outs X k).getD i 0=kV X (k-1-i) % 256:=by
 induction k generalizing i with
 | zero=>omega
 | succ k ih=>
  cases i with
  | zero=>simp[outs]
  | succ i=>
   simp only[outs,List.getD_cons_succ];rw[ih i O0]
   congr 2
   omega
theorem zV(X:Int)(k i:Nat)(hk:k<=8)(h:i<k):kc X k (8-k+i)=(outs X k).getD i 0:=by
 rw[AO X k i h];unfold kc;rw[L8 O0]
 congr 2
 omega
theorem Rq{k:IntKind}{a b:Int}(h:a=b):Ending.returned (.int k a)=.returned (.int k b):=by rw[h]
theorem a4c(s:BY)(w:World)(hs:s.size<=1048700):
 Calls prog 260 #[.string s] w λe w'=>e=.returned (.int .u64 (hsum s.data.toList))/\w'=w:=by
 go_in
 go_wp2;go_loop[3,4] (λv i=>∃k:Nat,k<=s.size/\i=.int .i64 k/\v=.int .u64 (hsum (s.data.toList.take k))) (λ_ i=>s.size-(RowKit.intOf i).toNat);exact⟨0,J4 _,rfl,rfl⟩;obtain⟨k,hk,rfl,rfl⟩:=hrel;have hx:=Qj (s.data.toList.take k);by_cases a:k<s.size
 ·have b:Hid (hsum (s.data.toList.take (k+1))=hstep (hsum (s.data.toList.take k)) s[k]):=by rw[take_snoc s k a];exact XC _ _
  go_wp2
  go_round
  exact⟨k+1,O0,by go_num,by rw[b.out];rfl⟩;exact Z9
 go_wp2;go_ret;exact⟨Rq (by rw[C_ Q8]),rfl⟩
theorem a5r(s:BY)(w:World)(hs:s.size<=1048700):
 Calls prog 262 #[.string s] w λe w'=>e=.returned (.int .u64 (hsum s.data.toList))/\w'=w:=by
 go_in
 go_wp2;go_loop[3,7] (λv i=>∃k:Nat,k<=s.size/\i=.int .i64 k/\v=.int .u64 (hsum (s.data.toList.take k))) (λ_ i=>s.size-(RowKit.intOf i).toNat);exact⟨0,J4 _,rfl,rfl⟩;obtain⟨k,hk,rfl,rfl⟩:=hrel;have hx:=Qj (s.data.toList.take k);by_cases a:k<s.size
 ·have b:Hid (hsum (s.data.toList.take (k+1))=hstep (hsum (s.data.toList.take k)) s[k]):=by rw[take_snoc s k a];exact XC _ _
  go_wp2
  go_round
  exact⟨k+1,O0,by go_num,by rw[b.out];rfl⟩;exact Z9
 go_wp2;go_ret;exact⟨Rq (by rw[C_ Q8]),rfl⟩
theorem SL(u:World)(y:Int):(convert 181 9 (.slice (some ⟨u.heap.size,0,none⟩) 1 1)).run prog (u.alloc (.cells #[.int .u8 y] 5))=.ok (.string (strOfNums [y])) (u.alloc (.cells #[.int .u8 y] 5)):=
 run_convert_bytes_arg _ 181 5 underlying181 underlying5 _ 0 1 1 [y] rfl (λi hi=>by
  obtain rfl:i=0:=O0;simp) 9 underlying9
theorem a3P(v:Int)(n:Nat)(w:World)(d:0<=v)(c:v<=18446744073709551615)(hn:n<=8):
 Calls prog 259 #[.int .u64 v,.int .i64 n] w λe w'=>e=.returned (.string (strOfNums (outs v n)))/\Bw w w':=by
 have hcv:=SL;have hz:∀y,(strOfNums [y]).size=1:=λy=>strOfNums_size [y]
 go_in
 go_wp2;go_loopw[0,5,6] (λa o i wr=>∃k:Nat,k<=n/\i=.int .i64 k/\a=.int .u64 (kV v k)/\o=.string (strOfNums (outs v k))/\Below w.heap.size w wr) (λ_ _ i _=>n-(RowKit.intOf i).toNat);exact⟨0,J4 _,rfl,rfl,rfl,G5 _ _⟩;obtain⟨k,hk,rfl,rfl,rfl,b⟩:=hrel;have hx:=mD v d c k;have hq:(strOfNums (outs v k)).size=k:=by rw[strOfNums_size,Xp]
 by_cases hlt:k<n
 ·go_wp2;go_roundw;exact⟨k+1,O0,by go_num,rfl,by rw[EP];rfl,b.alloc b.size _⟩;exact Z9
 go_wp2;go_ret;obtain rfl:k=n:=O0;exact⟨rfl,b⟩
theorem a3Y(s:BY)(n:Nat)(w:World)(hn:n<=8)(f:s.size<=1048700):
 Calls prog 224 #[.string s,.int .i64 n] w λe w'=>(∃X,X=hsum s.data.toList/\e=.returned (.agg #[.int .u8 (kc X n 0),.int .u8 (kc X n 1),.int .u8 (kc X n 2),.int .u8 (kc X n 3),.int .u8 (kc X n 4),.int .u8 (kc X n 5),.int .u8 (kc X n 6),.int .u8 (kc X n 7)]))/\Bw w w':=by
 go_in
 go_wp2_with fail
 refine(a5r _ _ f).mono ?_;rintro e w'⟨rfl,rfl⟩;have hx:=Qj s.data.toList;generalize hX:hsum s.data.toList=X at*;have y:=U0 hX.symm;clear hX;go_wp2;go_loopw[6,11] (λa i wr=>∃k:Nat,k<=n/\i=.int .i64 k/\a=.int .u64 (kV X k)/\Below w.heap.size w wr/\w.heap.size+2<=wr.heap.size/\(∀j,j<8->wr.cell? ⟨w.heap.size+1,j,none⟩=some (.int .u8 (kc X k j)))/\(∀j,wr.frozen? ⟨w.heap.size+1,j,none⟩=false)/\(∀j,j<8->wr.cell? ⟨w.heap.size,j,none⟩=some (.int .u8 0))/\(∀j,wr.frozen? ⟨w.heap.size,j,none⟩=false)) (λ_ i _=>n-(RowKit.intOf i).toNat)
 case atStart=>
  refine⟨0,J4 _,rfl,rfl,Y6.alloc E5 _,E5,?_,?_,?_,?_⟩
  ·intro j b;rw[LY X j b];rcases j with _|_|_|_|_|_|_|_|j<;>first|omega|simp
  ·intro j;simp
  ·intro j b;rcases j with _|_|_|_|_|_|_|_|j<;>first|omega|simp
  intro j;simp
 obtain⟨k,hk,rfl,rfl,c,hz,h1,d,h0,g⟩:=hrel;have hx:=mD X hx.1 hx.2 k;by_cases hlt:k<n
 ·have g1:=h1 (7-k) O0;have g2:=d (7-k);go_wp2;go_roundw
  ·refine⟨k+1,O0,by go_num,rfl,c.setCell E5 _,by simpa using hz,?_,?_,?_,?_⟩
   ·intro j b;by_cases e:j=7-k
    ·subst e;rw[tX X k O0];exact Pg _ _ _ g1
    rw[TR X k j O0 b e,<- h1 j b];exact Xb _ _ _ _ (by intro h;injection h with h1 h2;exact e h2.symm)
   ·intro j;rw[<- d j];simp
   ·intro j b;rw[<- h0 j b];exact Xb _ _ _ _ E5
   intro j;rw[<- g j];simp
  exact Z9
 have a0:=h1 0 O0;have a1:=h1 1 O0;have a2:=h1 2 O0;have a3:=h1 3 O0;have a4:=h1 4 O0;have a5:=h1 5 O0;have a6:=h1 6 O0;have a7:=h1 7 O0;have b0:=h0 0 O0;have t:=h0 1 O0;have r:=h0 2 O0;have q:=h0 3 O0;have p:=h0 4 O0;have o:=h0 5 O0;have m:=h0 6 O0;have l:=h0 7 O0;clear h1 h0;go_wp2;obtain rfl:k=n:=O0;refine Q7 (v:=.agg #[.int .u8 (kc X k 0),.int .u8 (kc X k 1),.int .u8 (kc X k 2),.int .u8 (kc X k 3),.int .u8 (kc X k 4),.int .u8 (kc X k 5),.int .u8 (kc X k 6),.int .u8 (kc X k 7)]) (by simp[results,results224,go_sem,b0,t,r,q,p,o,m,l]) rfl ⟨⟨X,y.out,rfl⟩,?_⟩;have st:∀(u:World)(j:Nat)(x:Value),Bw w u->Bw w (u.setCell (aW w j) x):=λu j x h=>h.setCell X7 x
 iterate 8 refine st _ _ _ ?_
 exact c
def B_(c:UInt8):Bool:=decide (48<=(c.toNat:Int)/\(c.toNat:Int)<=57)
def Uk(c:UInt8):Bool:=decide (33<=(c.toNat:Int)/\(c.toNat:Int)<=126)
def X6(l:List UInt8):Bool:=decide (1<=l.length/\l.length<=20)&&l.all Uk
def AZ(n:Int)(c:UInt8):Int:=n*10+((c.toNat:Int)-48)
def val(l:List UInt8):Int:=l.foldl AZ 0
theorem Df(l:List UInt8)(c:UInt8):val (l++[c])=val l*10+((c.toNat:Int)-48):=by simp[val,AZ]
theorem Ye(c:UInt8):B_ c=true↔48<=(c.toNat:Int)/\(c.toNat:Int)<=57:=by simp[B_]
theorem jr(c:UInt8):Uk c=true↔33<=(c.toNat:Int)/\(c.toNat:Int)<=126:=by simp[Uk]
theorem Uu{P:List UInt8->Prop}(h0:P [])(h1:∀l c,P l->P (l++[c]))(l:List UInt8):P l:=by
 have h:∀r:List UInt8,P r.reverse:=λr=>by
  induction r with
  | nil=>exact h0
  | cons c r ih=>rw[List.reverse_cons];exact h1 _ _ ih
 have:=h l.reverse
 rwa[List.reverse_reverse]at this
theorem Tm(l:List UInt8):l.all B_=true->0<=val l:=by
 refine Uu (P:=λl=>l.all B_=true->0<=val l) (by simp[val]) (λl c a h=>?_) l;rw[Np]at h;simp only[Xm,yB,MB,Ia]at h;have:=a h.1;have hc:=(Ye c).1 h.2;rw[Df];omega
theorem Aq(l:List UInt8):l.all B_=true->∀k,val (l.take k)<=val l:=by
 refine Uu (P:=λl=>l.all B_=true->∀k,val (l.take k)<=val l) (by simp[val]) (λl c a h k=>?_) l;rw[Np]at h;simp only[Xm,yB,MB,Ia]at h;by_cases b:k<=l.length
 ·rw[II b,Df];have:=a h.1 k;have h0:=Tm l h.1;have hc:=(Ye c).1 h.2;omega
 rw[C_ Q8];exact BF _
def Ic(l:List UInt8):Bool:=!l.isEmpty&&!(l.headD 0==48&&!(l==[48]))
def qf(l:List UInt8):Bool:=Ic l&&l.all B_&&decide (val l<=40)
def nC:Nat->Int->List UInt8
 | 0,_=>[]
 | f+1,n=>if n<10 then [UInt8.ofNat (48+n).toNat] else nC f (n / 10)++[UInt8.ofNat (48+n % 10).toNat]
def dec(n:Int):List UInt8:=nC (n.toNat+1) n
theorem yT(f g:Nat)(n:Int)(h0:0<=n)(hf:n.toNat<f)(hg:n.toNat<g):nC f n=nC g n:=by
 induction f generalizing g n with
 | zero=>omega
 | succ f ih=>
  cases g with
  | zero=>omega
  | succ g=>
   simp only[nC];by_cases h:n<10
   ·rw[L8 h,L8 h]
   rw[Y7 h,Y7 h,ih g (n / 10) O0 O0 O0]
theorem dec_lt(n:Int)(h:n<10):dec n=[UInt8.ofNat (48+n).toNat]:=by simp[dec,nC,h]
theorem Wj(n:Int)(h:10<=n):dec n=dec (n / 10)++[UInt8.ofNat (48+n % 10).toNat]:=by
 unfold dec;rw[nC,Y7 O0,yT n.toNat ((n / 10).toNat+1) (n / 10) O0 O0 O0]
theorem VJ(n:Int):dec n≠[]:=by
 by_cases h:n<10
 ·rw[dec_lt n h];simp
 rw[Wj n O0];simp
theorem MO(c:UInt8)(h:B_ c=true):UInt8.ofNat (48+((c.toNat:Int)-48)).toNat=c:=by
 have:=(Ye c).1 h;rw[show(48+((c.toNat:Int)-48)).toNat=c.toNat by omega];exact UInt8.ofNat_toNat
theorem Qy(l:List UInt8):l.all B_=true->Ic l=true->dec (val l)=l/\(2<=l.length->10<=val l)/\(l.headD 0≠48->1<=val l):=by
 refine Uu (P:=λl=>l.all B_=true->Ic l=true->dec (val l)=l/\(2<=l.length->10<=val l)/\(l.headD 0≠48->1<=val l)) (by simp[Ic]) (λl c b h hl=>?_) l;rw[Np]at h;simp only[Xm,yB,MB,Ia]at h;have hc:=(Ye c).1 h.2;have hd:=MO c h.2
 cases l with
 | nil=>
  have e:val ([]++[c])=(c.toNat:Int)-48:=by rw[Df];simp[val]
  rw[e];refine⟨?_,E5,?_⟩
  ·rw[dec_lt _ O0,hd];rfl
  intro h1;simp at h1;have:c.toNat≠48:=λe=>h1 (by rw[<- Wi];exact e);omega
 | cons a r=>
  have ha:a≠48:=by
   intro e;subst e;simp[Ic]at hl
  have f:Ic (a::r)=true:=by simp[Ic,ha]
  obtain⟨h1,_,i⟩:=b h.1 f;have h4:=i (by simpa using ha);rw[Df];have g:(val (a::r)*10+((c.toNat:Int)-48)) / 10=val (a::r):=O0;have d:(val (a::r)*10+((c.toNat:Int)-48)) % 10=(c.toNat:Int)-48:=O0;refine⟨?_,λ_=>O0,λ_=>O0⟩;rw[Wj _ O0,g,d,h1,hd]
theorem yG(f:Nat)(n:Int)(h0:0<=n)(hf:n.toNat<f):Ic (dec n)=true/\(1<=n->(dec n).headD 0≠48):=by
 induction f generalizing n with
 | zero=>omega
 | succ f ih=>
  by_cases h:n<10
  ·rw[dec_lt n h];obtain rfl|rfl|rfl|rfl|rfl|rfl|rfl|rfl|rfl|rfl:n=0\/n=1\/n=2\/n=3\/n=4\/n=5\/n=6\/n=7\/n=8\/n=9:=O0
   all_goals decide
  obtain⟨h1,h2⟩:=ih (n / 10) O0 O0;have c:=h2 O0;rw[Wj n O0];have b:=VJ (n / 10);generalize dec (n / 10)=l at*
  cases l with
  | nil=>exact absurd rfl b
  | cons a r=>
   have ha:a≠48:=by simpa using c
   exact⟨by simp[Ic,ha],λ_=>by simpa using ha⟩
theorem Dx(l:List UInt8)(h:l.all B_=true)(hl:Ic l=true)(b:val l<=40):l.length<=2:=by
 rcases D8 2 l.length with h2|h2
 ·exfalso;rcases vC l with e|⟨r,c,e⟩
  ·subst e;simp at h2
  rw[WC]at e;subst e;rw[Np]at h;simp only[Xm,yB,MB,Ia]at h;have hr:2<=r.length:=by simp at h2;omega
  cases r with
  | nil=>simp at hr
  | cons a r=>
   have ha:a≠48:=by
    intro e;subst e;simp[Ic]at hl
   have:=(Qy (a::r) h.1 (by simp[Ic,ha])).2.1 hr;have hc:=(Ye c).1 h.2;rw[Df]at b;omega
 exact h2
theorem YQ(f:Nat)(n:Int):(nC f n).length<=f:=by
 induction f generalizing n with
 | zero=>simp[nC]
 | succ f ih=>
  simp only[nC];by_cases h:n<10
  ·rw[L8 h];simp
  rw[Y7 h];have:=ih (n / 10);simp;omega
theorem EK(n:Int)(h:0<=n)(h1:n<=100000000):(dec n).length<=100000001:=by
 have:=YQ (n.toNat+1) n;unfold dec;omega
theorem CP(n:Int)(h:0<=n)(h1:n<=100000000):IntKind.i64.wrap (n.tdiv 10)=n / 10:=by
 rw[Int.tdiv_eq_ediv_of_nonneg h];simp[IntKind.wrap,IntKind.signed,IntKind.bits];omega
end Go.Proofs.YtkccjgajimjjdaaGreatDoor
namespace Go.Proofs
open Go.Shelf
def Tryz.xI:Go.Shelf.Ren:=⟨λ| 145=>222|220=>261|219=>297|217=>315|225=>316|224=>317|267=>318|266=>344|314=>345|n=>n, λ| 9=>9|4=>4|59=>287|3=>3|5=>5|46=>314|146=>359|51=>358|n=>n, λ| 1=>5|n=>n⟩
theorem Tryz.lays145:Go.Proofs.Lays.n145 prog Tryz.xI:={
 mixed:=Y1
 f145:=func222.trans (l7 some Y1)
 f217:=func315.trans (l7 some Y1)
 f219:=func297.trans (l7 some Y1)
 f220:=func261.trans (l7 some Y1)
 f224:=func317.trans (l7 some Y1)
 f225:=func316.trans (l7 some Y1)
 f266:=func344.trans (l7 some Y1)
 f267:=func318.trans (l7 some Y1)
 f314:=func345.trans (l7 some Y1)
 t3:=underlying3
 a3:=Tryz.isAgg3
 z3:=Tryz.sizeOf3
 v3:=Tryz.zeroValue3
 t4:=underlying4
 a4:=Tryz.isAgg4
 z4:=Tryz.sizeOf4
 v4:=Tryz.zeroValue4
 t5:=underlying5
 a5:=Tryz.isAgg5
 z5:=Tryz.sizeOf5
 v5:=Tryz.zeroValue5
 t9:=underlying9
 a9:=Tryz.isAgg9
 z9:=Tryz.sizeOf9
 v9:=Tryz.zeroValue9
 t46:=underlying314
 a46:=Tryz.isAgg314
 z46:=Tryz.sizeOf314
 v46:=Tryz.zeroValue314
 t51:=underlying358
 a51:=Tryz.isAgg358
 z51:=Tryz.sizeOf358
 v51:=Tryz.zeroValue358
 t59:=underlying287
 a59:=Tryz.isAgg287
 z59:=Tryz.sizeOf287
 v59:=Tryz.zeroValue287
 t146:=underlying359
 a146:=Tryz.isAgg359
 z146:=Tryz.sizeOf359
 v146:=Tryz.zeroValue359
 g1:=by kernel_rfl }
theorem Tryz.strings_Cut(s a:BY)(m:Int)(w:World)(b:s.size<4294967281)(hm:w.cell? ⟨5,0,none⟩=some (.int .i64 m)):
 Calls prog 222 #[.string s,.string a] w λe w'=>e=.returned (.tuple #[.string ⟨(Lib.cut s.data.toList a.data.toList).1.toArray⟩,.string ⟨(Lib.cut s.data.toList a.data.toList).2.1.toArray⟩,.bool (Lib.cut s.data.toList a.data.toList).2.2])/\∃n,w'=w.drewN n:=Any.strings_Cut Tryz.lays145 s a m w b hm
