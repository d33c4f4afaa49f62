import Derived.Test.YtdgneicbmalnpaaGreatDoorProg
import Derived.WalkSpells
import Derived.WalkLawsBesides
import Derived.Shelf.Strings.Cut
set_option linter.all false
set_option maxHeartbeats 0
set_option maxRecDepth 99999
theorem Go.RowKit.Hid.o{p:Prop}(h:Go.RowKit.Hid p):p:=h
open Go.Value renaming slice->Sa,string->Sb,int->Sc,pointer->Sd
open Go.IntKind renaming i64->Se
open Go.Ending renaming returned->Sf
namespace Go.Proofs
variable{p:Prop}{u v w:World}{n:Nat}
theorem U0(h:p):Go.RowKit.Hid p:=h
theorem U6{o:Obj}:Go.RowKit.Below w.heap.size w (w.alloc o):=(Go.RowKit.Below.refl _ _).alloc (Nat.le_refl _) _
theorem E5(h:Go.RowKit.Below w.heap.size w u)(k:Go.RowKit.Below u.heap.size u v):Go.RowKit.Below w.heap.size w v:=h.trans (k.mono h.size)
theorem O0(h:p:=by omega):p:=h
theorem L8(h:p:=by simp;omega):p:=h
theorem J4(h:p:=by simp):p:=h
theorem U5(h:p:=by decide):p:=h
theorem Y0(h:p:=by kernel_rfl):p:=h
theorem A8:n<=n:=Nat.le_refl n
theorem V9(h:p:=by simp[Go.RowKit.intOf];omega):p:=h
@[go_sem] abbrev vI(x:Int):Value:=Sc Se x
@[go_sem] abbrev vS(x:ByteArray):Value:=Sb x
@[go_sem] abbrev vL(a:Option Addr)(n c:Nat):Value:=Sa a n c
@[go_sem] abbrev vN:Value:=Sa none 0 0
@[go_sem] abbrev vE:Value:=Sb ⟨#[]⟩
@[go_sem] abbrev vO:Value:=Sc Se 0
@[go_sem] abbrev aA(b o:Nat):Addr:=⟨b,o,none⟩
@[go_sem] abbrev aW(w:World)(o:Nat):Addr:=⟨w.heap.size,o,none⟩
abbrev BY:=ByteArray
abbrev LB:=List ByteArray
abbrev OA:=Option Addr
abbrev Bw(w w':World):Prop:=Go.RowKit.Below w.heap.size w w'
theorem bG(h:Bw u v)(e:u.heap.size=n:=by simp<;>rfl):Go.RowKit.Below n u v:=e▸h
theorem gz:(∀{α:Type}(a:α)(l:List α),(a::l)[0]?=some a)/\∀{α:Type}(a:α)(l:List α)(i:Nat),(a::l)[i+1]?=l[i]?:=⟨λ_ _=>rfl,λ_ _ _=>rfl⟩
theorem Ud{α:Type}{l:List α}{k:Nat}{P:Prop}(h:l=[]\/P)(hk:k<l.length):P:=h.elim (λe=>by rw[e]at hk;exact absurd hk (Nat.not_lt_zero _)) id
abbrev Y4:=@Nat.zero_le
abbrev O4:=@Go.RowKit.Below.refl
abbrev V8:=@List.getElem?_eq_getElem
abbrev U8:=@Nat.not_lt_zero
abbrev P9:=@Nat.lt_of_lt_of_le
abbrev X7:=@Nat.le_trans
abbrev Q9:=@List.length_append
abbrev Z7:=@Nat.lt_or_ge
abbrev Y8:=@Nat.zero_add
abbrev G7:=@congrArg
abbrev P7:=@Go.bodyPost_ret
abbrev D_:=@List.getElem?_append_left
abbrev p_:=@List.take_of_length_le
abbrev Y7:=@Nat.le_refl
abbrev Ya:=@Array.getElem?_eq_some_iff
abbrev w_:=@List.getElem?_set_ne
abbrev Nb:=@Go.World.cell?_setCell_other
abbrev f_:=@List.length_cons
abbrev Y9:=@List.nil_append
abbrev Xb:=@List.length_eq_zero_iff
abbrev Xa:=@Nat.le_of_ble_eq_true
abbrev S_:=@beq_eq_false_iff_ne
abbrev j_:=@decide_eq_false
abbrev Eb:=@List.getElem?_eq_none
abbrev M_:=@Go.World.ownsRow_nil
abbrev C_:=@Option.some.inj
abbrev L_:=@List.length_take
abbrev Yf:=@List.getElem?_append_right
abbrev Fa:=@Bool.and_eq_true
abbrev U7:=@if_neg
abbrev X_:=@decide_eq_true
abbrev Jg:=@Go.World.cell?_setCell_same
abbrev ah:=@List.getElem?_eq_some_iff
abbrev Fb:=@List.length_nil
abbrev Dc:=@Option.getD_some
abbrev D8:=@if_pos
abbrev Qe:=@List.getElem_of_mem
abbrev jd:=@List.cons_append
abbrev Pe:=@decide_eq_true_eq
abbrev Ug:=@List.mem_cons_of_mem
abbrev Qk:=@List.getD_eq_getElem?_getD
abbrev Xf:=@List.flatMap_cons
abbrev Uf:=@Bool.eq_false_iff
abbrev Ve:=@List.length_map
abbrev yj:=@Go.World.cell?_alloc_lt
abbrev jk:=@List.length_singleton
abbrev qf:=@List.mem_cons
abbrev Xk:=@List.getElem?_set_self
abbrev dh:=@List.getElem_mem
abbrev Zk:=@List.take_append_drop
abbrev jg:=@ByteArray.ext
abbrev Zj:=@List.mem_singleton
abbrev Ph:=@List.mem_append
abbrev Vf:=@Nat.le_of_eq
abbrev Qo:=@Array.getElem?_eq_none
abbrev Qi:=@List.length_set
abbrev dm:=@List.length_pos_iff
abbrev uj:=@UInt8.toNat_inj
abbrev Vj:=@Nat.lt_succ_self
abbrev Yi:=@List.cons.injEq
abbrev Oj:=@List.length_drop
abbrev Ro:=@Nat.mul_le_mul_right
abbrev Am:=@Bool.false_ne_true
abbrev Vo:=@List.flatMap_append
abbrev SB:=@List.take_succ_eq_append_getElem
abbrev Sm:=@Go.Result.andThen_ok
abbrev Lp:=@Array.replicate_succ
abbrev Qq:=@Array.replicate_zero
abbrev Ht:=@List.drop_of_length_le
abbrev Rh:=@List.mem_map
abbrev Nl:=@List.map_append
abbrev Iq:=@List.append_toArray
abbrev Yl:=@Array.toList_inj
abbrev Xu:=@decide_eq_false_iff_not
abbrev Yo:=@Go.DataW.trod_string
abbrev Ky:=@List.drop_eq_getElem_cons
abbrev Xi:=@Go.Sem.run_bind
abbrev Oo:=@List.not_mem_nil
abbrev Uo:=@List.all_eq_true
abbrev Oq:=@List.take_add_one
abbrev Wp:=@List.size_toArray
abbrev Hr:=@List.push_toArray
abbrev Ry:=@Go.World.frozen?_alloc_old
abbrev Gt:=@List.mem_cons_self
abbrev ak:=@Nat.succ_mul
abbrev Tt:=@List.append_assoc
abbrev Jt:=@Nat.lt_trichotomy
abbrev zC:=@List.getElem?_take_of_lt
abbrev jr:=@List.all_append
abbrev Xt:=@List.take_length
abbrev qp:=@List.cons.inj
abbrev Yp:=@List.mem_range
abbrev Uy:=@Array.length_toList
abbrev Vt:=@List.append_nil
abbrev Ot:=@Nat.min_eq_left
abbrev Xo:=@Int.lt_or_le
abbrev Zo:=@Nat.add_zero
abbrev Pm:=@Nat.mul_one
abbrev Yt:=@Go.DataW.trod_int
abbrev IA:=@List.mem_of_mem_take
abbrev ku:=@List.map_congr_left
abbrev Tj:=@Go.Sem.run_pure
abbrev Ip:=@Go.RowKit.Below.heap_alloc
abbrev zq:=@List.flatMap_def
abbrev Aq:=@Nat.le_of_not_lt
abbrev ou:=@Go.RowKit.Below.heap_setCell
abbrev wu:=@Nat.eq_zero_or_pos
abbrev zu:=@List.pairwise_cons
abbrev cu:=@List.find?_eq_none
abbrev Xx:=@List.eq_nil_or_concat
abbrev Px:=@List.concat_eq_append
abbrev Ep:=@List.mem_filter
abbrev Tq:=@List.foldl_cons
abbrev yu:=@List.getElem?_map
abbrev Hu:=@Go.Value.slice.injEq
abbrev zo:=@List.all_cons
abbrev xu:=@List.ext_getElem
abbrev qC:=@Option.map_eq_some_iff
abbrev Kw:=@List.filter_append
abbrev ny:=@List.getElem?_take
abbrev qo:=@Go.Addr.add_lit
abbrev Ko:=@Classical.em
abbrev JB:=@List.length_replicate
abbrev Xq:=@List.map_cons
abbrev Iw:=@Option.some.injEq
abbrev ax:=@Go.World.ownsRow_lit
abbrev iF:=@List.pairwise_iff_getElem
abbrev iK:=@ByteArray.getElem_eq_getElem_data
abbrev Zt:=@Go.run_underlying
abbrev Gp:=@List.map_map
abbrev qx:=@List.getElem_map
abbrev Ox:=@List.mem_flatMap
abbrev qy:=@Option.map_some
abbrev Hq:=@Nat.le_succ
abbrev lJ:=@List.take_append_of_le_length
abbrev YJ:=@List.drop_append_of_le_length
abbrev Yz:=@Int.toNat_natCast
abbrev IB:=@List.getElem_take
abbrev TA:=@of_decide_eq_true
abbrev ay:=@Bool.and_false
abbrev Yq:=@beq_iff_eq
abbrev dF:=@List.mem_append_left
abbrev JG:=@List.length_finRange
abbrev zG:=@List.mem_iff_getElem
abbrev Qw:=@Nat.add_assoc
abbrev tJ:=@Nat.mod_two_eq_zero_or_one
abbrev EG:=@List.mem_map_of_mem
abbrev gG:=@Go.World.grownBy_alloc
abbrev fC:=@List.range_succ
abbrev MK:=@Array.getElem?_eq_getElem
abbrev fF:=@UInt8.toNat_ofNat'
abbrev zx:=@Go.wpList_plain
abbrev rG:=@Go.heap_setCell_other
abbrev vG:=@List.getElem?_drop
abbrev yw:=@Nat.le_of_lt
abbrev Gw:=@Nat.zero_mul
abbrev Uw:=@Nat.sub_self
abbrev ru:=@bne_iff_ne
abbrev NF:=@List.foldl_append
abbrev oC:=@Bool.and_true
abbrev Xn:=@Ne.symm
abbrev dJ:=@List.mem_append_right
abbrev tK:=@List.length_filter_le
abbrev OJ:=@ByteArray.size_append
abbrev yC:=@List.all_nil
abbrev yJ:=@List.mem_of_mem_drop
abbrev TJ:=@List.getLastD_concat
abbrev qJ:=@Go.World.ownsRow.alloc
abbrev lK:=@List.filter_eq_self
abbrev mF:=@List.drop_zero
abbrev zF:=@List.Perm.refl
abbrev kG:=@List.drop_drop
abbrev dR:=@List.takeWhile_append_of_pos
abbrev iR:=@List.dropWhile_append_of_pos
abbrev tC:=@Go.RowKit.Below.trans
abbrev dK:=@Nat.add_sub_cancel
abbrev oK:=@Go.World.ownsRow_made
abbrev Zm:=@not_or
abbrev aV:=@List.append_cancel_right_eq
abbrev qQ:=@List.setIfInBounds_toArray
abbrev RQ:=@List.mergeSort_of_pairwise
abbrev yV:=@List.eq_append_cons_of_mem
abbrev XU:=@Int.tmod_eq_emod_of_nonneg
abbrev bJ:=@Bool.not_eq_true'
abbrev kJ:=@Nat.le_succ_of_le
abbrev EJ:=@Classical.not_not
abbrev MV:=@List.mem_of_find?_eq_some
abbrev dU:=@List.extract_eq_take_drop
abbrev JJ:=@List.map_toArray
abbrev WE:=@List.map_nil
abbrev RF:=@Go.results_none
abbrev vJ:=@List.flatMap_nil
abbrev QE:=@UInt8.not_lt
abbrev yQ:=@Option.isSome_iff_exists
abbrev UE:=@Nat.mul_comm
abbrev kK:=@Go.IntKind.wrap_i64
abbrev ZR:=@Int.eq_ofNat_of_zero_le
abbrev nU:=@Nat.add_sub_cancel_left
abbrev fV:=@List.getElem?_cons_succ
abbrev NV:=@List.getElem?_replicate
abbrev FK:=@List.headD_cons
abbrev WJ:=@Go.DataW.trod_bool
abbrev jJ:=@List.find?_some
abbrev IJ:=@Bool.or_eq_true
abbrev xK:=@UInt8.lt_irrefl
abbrev KJ:=@Int.natCast_add
abbrev EK:=@Nat.div_add_mod
abbrev yG:=@List.map_id
abbrev BG:=@Nat.min_def
abbrev MJ:=@Bool.false_and
abbrev qK:=@List.drop_take
abbrev bK:=@Bool.not_false
abbrev yA:=@true_and
abbrev MF:=@Nat.mod_lt
abbrev zK:=@Bool.and_self
abbrev iJ:=@Prod.mk.injEq
abbrev ZJ:=@Bool.not_true
end Go.Proofs
namespace Go.Proofs.YtdgneicbmalnpaaGreatDoor
open Proofs.Tryz Go.RowKit
def hstep(x:Int)(c:UInt8):Int:=IntKind.u64.wrap (bits BinOp.xor IntKind.u64 x (IntKind.u64.wrap (c.toNat:Int))*1099511628211)
def hsum(l:List UInt8):Int:=l.foldl hstep 14695981039346656037
theorem qA(x:Int):0<=IntKind.u64.wrap x/\IntKind.u64.wrap x<=18446744073709551615:=by
 simp[IntKind.wrap,IntKind.signed,IntKind.bits];omega
theorem Pj(l:List UInt8):0<=hsum l/\hsum l<=18446744073709551615:=by
 unfold hsum;rcases Xx l with h|⟨l',c,h⟩
 ·subst h;simp
 subst h;simp only[Px,NF,Tq,List.foldl_nil];exact qA _
theorem KE(l:List UInt8)(c:UInt8):hsum (l++[c])=hstep (hsum l) c:=by simp[hsum]
theorem take_snoc(s:BY)(k:Nat)(h:k<s.size):s.data.toList.take (k+1)=s.data.toList.take k++[s[k]]:=by
 rw[SB (by simpa using h)];rfl
def WV(v:Int):Nat->Int
 | 0=>v
 | k+1=>WV v k / 256
def outs(v:Int):Nat->List Int
 | 0=>[]
 | k+1=>(WV v k % 256)::outs v k
theorem jq(v:Int)(k:Nat):(outs v k).length=k:=by induction k with
 | zero=>rfl
 | succ k ih=>simp[outs,ih]
theorem JE(v:Int)(h0:0<=v)(h1:v<=18446744073709551615)(k:Nat):0<=WV v k/\WV v k<=18446744073709551615:=by
 induction k with
 | zero=>exact⟨h0,h1⟩
 | succ k ih=>simp only[WV];omega
theorem LV(x:Int)(l:List Int):strOfNums [x]++strOfNums l=strOfNums (x::l):=by
 apply jg;simp[strOfNums]
def kc(X:Int)(k j:Nat):Int:=if 8<=j+k then WV X (7-j) % 256 else 0
theorem jY(X:Int)(j:Nat)(_h:j<8):kc X 0 j=0:=by unfold kc;rw[if_neg O0]
theorem wY(X:Int)(k:Nat)(h:k<8):kc X (k+1) (7-k)=WV X k % 256:=by
 unfold kc;rw[if_pos O0];congr 2;omega
theorem ET(X:Int)(k j:Nat)(_h:k<8)(_hj:j<8)(hne:j≠7-k):kc X (k+1) j=kc X k j:=by
 unfold kc;by_cases h1:8<=j+k
 ·rw[D8 O0,D8 h1]
 rw[U7 O0,U7 h1]
theorem kP(X:Int)(k i:Nat)(h:i<k):(outs X k).getD i 0=WV X (k-1-i) % 256:=by
 induction k generalizing i with
 | zero=>omega
 | succ k ih=>
  cases i with
  | zero=>simp[outs]
  | succ i=>
   simp only[outs,List.getD_cons_succ];rw[ih i O0]
   congr 2
   omega
theorem fZ(X:Int)(k i:Nat)(hk:k<=8)(h:i<k):kc X k (8-k+i)=(outs X k).getD i 0:=by
 rw[kP X k i h];unfold kc;rw[D8 O0]
 congr 2
 omega
theorem Ws{k:IntKind}{a b:Int}(h:a=b):Sf (.int k a)=Sf (.int k b):=by rw[h]
theorem a5y(s:BY)(w:World)(hs:s.size<=1048700):
 Calls prog 293 #[Sb s] w λe w'=>e=Sf (.int .u64 (hsum s.data.toList))/\w'=w:=by
 go_in
 go_wp2;go_loop[3,4] (λv i=>∃k:Nat,k<=s.size/\i=Sc Se k/\v=.int .u64 (hsum (s.data.toList.take k))) (λ_ i=>s.size-(RowKit.intOf i).toNat);exact⟨0,Y4 _,rfl,rfl⟩;obtain⟨k,hk,rfl,rfl⟩:=hrel;have hx:=Pj (s.data.toList.take k);by_cases a:k<s.size
 ·have b:Hid (hsum (s.data.toList.take (k+1))=hstep (hsum (s.data.toList.take k)) s[k]):=by rw[take_snoc s k a];exact KE _ _
  go_wp2
  go_round
  exact⟨k+1,O0,by go_num,by rw[b.o];rfl⟩;exact V9
 go_wp2;go_ret;exact⟨Ws (by rw[p_ L8]),rfl⟩
theorem a6u(s:BY)(w:World)(hs:s.size<=1048700):
 Calls prog 295 #[Sb s] w λe w'=>e=Sf (.int .u64 (hsum s.data.toList))/\w'=w:=by
 go_in
 go_wp2;go_loop[3,7] (λv i=>∃k:Nat,k<=s.size/\i=Sc Se k/\v=.int .u64 (hsum (s.data.toList.take k))) (λ_ i=>s.size-(RowKit.intOf i).toNat);exact⟨0,Y4 _,rfl,rfl⟩;obtain⟨k,hk,rfl,rfl⟩:=hrel;have hx:=Pj (s.data.toList.take k);by_cases a:k<s.size
 ·have b:Hid (hsum (s.data.toList.take (k+1))=hstep (hsum (s.data.toList.take k)) s[k]):=by rw[take_snoc s k a];exact KE _ _
  go_wp2
  go_round
  exact⟨k+1,O0,by go_num,by rw[b.o];rfl⟩;exact V9
 go_wp2;go_ret;exact⟨Ws (by rw[p_ L8]),rfl⟩
theorem mM(u:World)(y:Int):(convert 211 9 (Sa (some ⟨u.heap.size,0,none⟩) 1 1)).run prog (u.alloc (.cells #[.int .u8 y] 5))=.ok (Sb (strOfNums [y])) (u.alloc (.cells #[.int .u8 y] 5)):=
 run_convert_bytes_arg _ 211 5 underlying211 underlying5 _ 0 1 1 [y] rfl (λi hi=>by
  obtain rfl:i=0:=O0;simp) 9 underlying9
theorem a4K(v:Int)(n:Nat)(w:World)(d:0<=v)(c:v<=18446744073709551615)(hn:n<=8):
 Calls prog 292 #[.int .u64 v,Sc Se n] w λe w'=>e=Sf (Sb (strOfNums (outs v n)))/\Bw w w':=by
 have hcv:=mM;have hz:∀y,(strOfNums [y]).size=1:=λy=>strOfNums_size [y]
 go_in
 go_wp2;go_loopw[0,5,6] (λa o i wr=>∃k:Nat,k<=n/\i=Sc Se k/\a=.int .u64 (WV v k)/\o=Sb (strOfNums (outs v k))/\Below w.heap.size w wr) (λ_ _ i _=>n-(RowKit.intOf i).toNat);exact⟨0,Y4 _,rfl,rfl,rfl,O4 _ _⟩;obtain⟨k,hk,rfl,rfl,rfl,b⟩:=hrel;have hx:=JE v d c k;have hq:(strOfNums (outs v k)).size=k:=by rw[strOfNums_size,jq]
 by_cases hlt:k<n
 ·go_wp2;go_roundw;exact⟨k+1,O0,by go_num,rfl,by rw[LV];rfl,b.alloc b.size _⟩;exact V9
 go_wp2;go_ret;obtain rfl:k=n:=O0;exact⟨rfl,b⟩
theorem a5f(s:BY)(n:Nat)(w:World)(hn:n<=8)(hs:s.size<=1048700):
 Calls prog 258 #[Sb s,Sc Se n] w λe w'=>(∃X,X=hsum s.data.toList/\e=Sf (.agg #[.int .u8 (kc X n 0),.int .u8 (kc X n 1),.int .u8 (kc X n 2),.int .u8 (kc X n 3),.int .u8 (kc X n 4),.int .u8 (kc X n 5),.int .u8 (kc X n 6),.int .u8 (kc X n 7)]))/\Bw w w':=by
 go_in
 go_wp2_with fail
 refine(a6u _ _ hs).mono ?_;rintro e w'⟨rfl,rfl⟩;have hx:=Pj s.data.toList;generalize hX:hsum s.data.toList=X at*;have t:=U0 hX.symm;clear hX;go_wp2;go_loopw[6,11] (λa i wr=>∃k:Nat,k<=n/\i=Sc Se k/\a=.int .u64 (WV X k)/\Below w.heap.size w wr/\w.heap.size+2<=wr.heap.size/\(∀j,j<8->wr.cell? ⟨w.heap.size+1,j,none⟩=some (.int .u8 (kc X k j)))/\(∀j,wr.frozen? ⟨w.heap.size+1,j,none⟩=false)/\(∀j,j<8->wr.cell? ⟨w.heap.size,j,none⟩=some (.int .u8 0))/\(∀j,wr.frozen? ⟨w.heap.size,j,none⟩=false)) (λ_ i _=>n-(RowKit.intOf i).toNat)
 case atStart=>
  refine⟨0,Y4 _,rfl,rfl,U6.alloc J4 _,J4,?_,?_,?_,?_⟩
  ·intro j b;rw[jY X j b];rcases j with _|_|_|_|_|_|_|_|j<;>first|omega|simp
  ·intro j;simp
  ·intro j b;rcases j with _|_|_|_|_|_|_|_|j<;>first|omega|simp
  intro j;simp
 obtain⟨k,hk,rfl,rfl,c,hz,h1,d,h0,f⟩:=hrel;have hx:=JE X hx.1 hx.2 k;by_cases hlt:k<n
 ·have g1:=h1 (7-k) O0;have g2:=d (7-k);go_wp2;go_roundw
  ·refine⟨k+1,O0,by go_num,rfl,c.setCell J4 _,by simpa using hz,?_,?_,?_,?_⟩
   ·intro j b;by_cases e:j=7-k
    ·subst e;rw[wY X k O0];exact Jg _ _ _ g1
    rw[ET X k j O0 b e,<- h1 j b];exact Nb _ _ _ _ (by intro h;injection h with h1 h2;exact e h2.symm)
   ·intro j;rw[<- d j];simp
   ·intro j b;rw[<- h0 j b];exact Nb _ _ _ _ J4
   intro j;rw[<- f j];simp
  exact V9
 have a0:=h1 0 O0;have a1:=h1 1 O0;have a2:=h1 2 O0;have a3:=h1 3 O0;have a4:=h1 4 O0;have a5:=h1 5 O0;have a6:=h1 6 O0;have a7:=h1 7 O0;have b0:=h0 0 O0;have r:=h0 1 O0;have q:=h0 2 O0;have p:=h0 3 O0;have o:=h0 4 O0;have m:=h0 5 O0;have l:=h0 6 O0;have g:=h0 7 O0;clear h1 h0;go_wp2;obtain rfl:k=n:=O0;refine P7 (v:=.agg #[.int .u8 (kc X k 0),.int .u8 (kc X k 1),.int .u8 (kc X k 2),.int .u8 (kc X k 3),.int .u8 (kc X k 4),.int .u8 (kc X k 5),.int .u8 (kc X k 6),.int .u8 (kc X k 7)]) (by simp[results,results258,go_sem,b0,r,q,p,o,m,l,g]) rfl ⟨⟨X,t.o,rfl⟩,?_⟩;have st:∀(u:World)(j:Nat)(x:Value),Bw w u->Bw w (u.setCell (aW w j) x):=λu j x h=>h.setCell A8 x
 iterate 8 refine st _ _ _ ?_
 exact c
def B_(c:UInt8):Bool:=decide (48<=(c.toNat:Int)/\(c.toNat:Int)<=57)
def Il(c:UInt8):Bool:=decide (33<=(c.toNat:Int)/\(c.toNat:Int)<=126)
def Y5(l:List UInt8):Bool:=decide (1<=l.length/\l.length<=20)&&l.all Il
def a0m(n:Int)(c:UInt8):Int:=n*10+((c.toNat:Int)-48)
def val(l:List UInt8):Int:=l.foldl a0m 0
theorem Bf(l:List UInt8)(c:UInt8):val (l++[c])=val l*10+((c.toNat:Int)-48):=by simp[val,a0m]
theorem Ue(c:UInt8):B_ c=true↔48<=(c.toNat:Int)/\(c.toNat:Int)<=57:=by simp[B_]
theorem Yr(c:UInt8):Il c=true↔33<=(c.toNat:Int)/\(c.toNat:Int)<=126:=by simp[Il]
theorem dw{P:List UInt8->Prop}(h0:P [])(h1:∀l c,P l->P (l++[c]))(l:List UInt8):P l:=by
 have h:∀r:List UInt8,P r.reverse:=λr=>by
  induction r with
  | nil=>exact h0
  | cons c r ih=>rw[List.reverse_cons];exact h1 _ _ ih
 have:=h l.reverse
 rwa[List.reverse_reverse]at this
theorem jo(l:List UInt8):l.all B_=true->0<=val l:=by
 refine dw (P:=λl=>l.all B_=true->0<=val l) (by simp[val]) (λl c a h=>?_) l;rw[jr]at h;simp only[zo,yC,oC,Fa]at h;have:=a h.1;have hc:=(Ue c).1 h.2;rw[Bf];omega
theorem Qp(l:List UInt8):l.all B_=true->∀k,val (l.take k)<=val l:=by
 refine dw (P:=λl=>l.all B_=true->∀k,val (l.take k)<=val l) (by simp[val]) (λl c a h k=>?_) l;rw[jr]at h;simp only[zo,yC,oC,Fa]at h;by_cases hk:k<=l.length
 ·rw[lJ hk,Bf];have:=a h.1 k;have h0:=jo l h.1;have hc:=(Ue c).1 h.2;omega
 rw[p_ L8];exact Int.le_refl _
def Nc(l:List UInt8):Bool:=!l.isEmpty&&!(l.headD 0==48&&!(l==[48]))
def Xe(l:List UInt8):Bool:=Nc l&&l.all B_&&decide (val l<=40)
def MC:Nat->Int->List UInt8
 | 0,_=>[]
 | f+1,n=>if n<10 then [UInt8.ofNat (48+n).toNat] else MC f (n / 10)++[UInt8.ofNat (48+n % 10).toNat]
def dec(n:Int):List UInt8:=MC (n.toNat+1) n
theorem lQ(f g:Nat)(n:Int)(h0:0<=n)(hf:n.toNat<f)(hg:n.toNat<g):MC f n=MC g n:=by
 induction f generalizing g n with
 | zero=>omega
 | succ f ih=>
  cases g with
  | zero=>omega
  | succ g=>
   simp only[MC];by_cases h:n<10
   ·rw[D8 h,D8 h]
   rw[U7 h,U7 h,ih g (n / 10) O0 O0 O0]
theorem dec_lt(n:Int)(h:n<10):dec n=[UInt8.ofNat (48+n).toNat]:=by simp[dec,MC,h]
theorem Sl(n:Int)(h:10<=n):dec n=dec (n / 10)++[UInt8.ofNat (48+n % 10).toNat]:=by
 unfold dec;rw[MC,U7 O0,lQ n.toNat ((n / 10).toNat+1) (n / 10) O0 O0 O0]
theorem LJ(n:Int):dec n≠[]:=by
 by_cases h:n<10
 ·rw[dec_lt n h];simp
 rw[Sl n O0];simp
theorem UN(c:UInt8)(h:B_ c=true):UInt8.ofNat (48+((c.toNat:Int)-48)).toNat=c:=by
 have:=(Ue c).1 h;rw[show(48+((c.toNat:Int)-48)).toNat=c.toNat by omega];exact UInt8.ofNat_toNat
theorem Kz(l:List UInt8):l.all B_=true->Nc l=true->dec (val l)=l/\(2<=l.length->10<=val l)/\(l.headD 0≠48->1<=val l):=by
 refine dw (P:=λl=>l.all B_=true->Nc l=true->dec (val l)=l/\(2<=l.length->10<=val l)/\(l.headD 0≠48->1<=val l)) (by simp[Nc]) (λl c b h hl=>?_) l;rw[jr]at h;simp only[zo,yC,oC,Fa]at h;have hc:=(Ue c).1 h.2;have hd:=UN c h.2
 cases l with
 | nil=>
  have e:val ([]++[c])=(c.toNat:Int)-48:=by rw[Bf];simp[val]
  rw[e];refine⟨?_,J4,?_⟩
  ·rw[dec_lt _ O0,hd];rfl
  intro h1;simp at h1;have:c.toNat≠48:=λe=>h1 (by rw[<- uj];exact e);omega
 | cons a r=>
  have ha:a≠48:=by
   intro e;subst e;simp[Nc]at hl
  have f:Nc (a::r)=true:=by simp[Nc,ha]
  obtain⟨h1,_,i⟩:=b h.1 f;have h4:=i (by simpa using ha);rw[Bf];have g:(val (a::r)*10+((c.toNat:Int)-48)) / 10=val (a::r):=O0;have d:(val (a::r)*10+((c.toNat:Int)-48)) % 10=(c.toNat:Int)-48:=O0;refine⟨?_,λ_=>O0,λ_=>O0⟩;rw[Sl _ O0,g,d,h1,hd]
theorem aH(f:Nat)(n:Int)(h0:0<=n)(hf:n.toNat<f):Nc (dec n)=true/\(1<=n->(dec n).headD 0≠48):=by
 induction f generalizing n with
 | zero=>omega
 | succ f ih=>
  by_cases h:n<10
  ·rw[dec_lt n h];obtain rfl|rfl|rfl|rfl|rfl|rfl|rfl|rfl|rfl|rfl:n=0\/n=1\/n=2\/n=3\/n=4\/n=5\/n=6\/n=7\/n=8\/n=9:=O0
   all_goals decide
  obtain⟨h1,h2⟩:=ih (n / 10) O0 O0;have c:=h2 O0;rw[Sl n O0];have b:=LJ (n / 10);generalize dec (n / 10)=l at*
  cases l with
  | nil=>exact absurd rfl b
  | cons a r=>
   have ha:a≠48:=by simpa using c
   exact⟨by simp[Nc,ha],λ_=>by simpa using ha⟩
theorem Py(l:List UInt8)(h:l.all B_=true)(hl:Nc l=true)(b:val l<=40):l.length<=2:=by
 rcases Z7 2 l.length with h2|h2
 ·exfalso;rcases Xx l with e|⟨r,c,e⟩
  ·subst e;simp at h2
  rw[Px]at e;subst e;rw[jr]at h;simp only[zo,yC,oC,Fa]at h;have hr:2<=r.length:=by simp at h2;omega
  cases r with
  | nil=>simp at hr
  | cons a r=>
   have ha:a≠48:=by
    intro e;subst e;simp[Nc]at hl
   have:=(Kz (a::r) h.1 (by simp[Nc,ha])).2.1 hr;have hc:=(Ue c).1 h.2;rw[Bf]at b;omega
 exact h2
theorem FQ(f:Nat)(n:Int):(MC f n).length<=f:=by
 induction f generalizing n with
 | zero=>simp[MC]
 | succ f ih=>
  simp only[MC];by_cases h:n<10
  ·rw[D8 h];simp
  rw[U7 h];have:=ih (n / 10);simp;omega
theorem VL(n:Int)(h:0<=n)(h1:n<=100000000):(dec n).length<=100000001:=by
 have:=FQ (n.toNat+1) n;unfold dec;omega
theorem YQ(n:Int)(h:0<=n)(h1:n<=100000000):IntKind.i64.wrap (n.tdiv 10)=n / 10:=by
 rw[Int.tdiv_eq_ediv_of_nonneg h];simp[IntKind.wrap,IntKind.signed,IntKind.bits];omega
end Go.Proofs.YtdgneicbmalnpaaGreatDoor
namespace Go.Proofs
open Go.Shelf
def Tryz.oI:Go.Shelf.Ren:=⟨λ| 145=>256|220=>294|219=>335|217=>352|225=>353|224=>354|267=>355|266=>371|314=>372|n=>n, λ| 9=>9|4=>4|59=>346|3=>3|5=>5|46=>370|146=>415|51=>414|n=>n, λ| 1=>5|n=>n⟩
theorem Tryz.lays145:Go.Proofs.Lays.n145 prog Tryz.oI:={
 mixed:=Y0
 f145:=func256.trans (G7 some Y0)
 f217:=func352.trans (G7 some Y0)
 f219:=func335.trans (G7 some Y0)
 f220:=func294.trans (G7 some Y0)
 f224:=func354.trans (G7 some Y0)
 f225:=func353.trans (G7 some Y0)
 f266:=func371.trans (G7 some Y0)
 f267:=func355.trans (G7 some Y0)
 f314:=func372.trans (G7 some Y0)
 t3:=underlying3
 a3:=Tryz.isAgg3
 z3:=Tryz.sizeOf3
 v3:=Tryz.zeroValue3
 t4:=underlying4
 a4:=Tryz.isAgg4
 z4:=Tryz.sizeOf4
 v4:=Tryz.zeroValue4
 t5:=underlying5
 a5:=Tryz.isAgg5
 z5:=Tryz.sizeOf5
 v5:=Tryz.zeroValue5
 t9:=underlying9
 a9:=Tryz.isAgg9
 z9:=Tryz.sizeOf9
 v9:=Tryz.zeroValue9
 t46:=underlying370
 a46:=Tryz.isAgg370
 z46:=Tryz.sizeOf370
 v46:=Tryz.zeroValue370
 t51:=underlying414
 a51:=Tryz.isAgg414
 z51:=Tryz.sizeOf414
 v51:=Tryz.zeroValue414
 t59:=underlying346
 a59:=Tryz.isAgg346
 z59:=Tryz.sizeOf346
 v59:=Tryz.zeroValue346
 t146:=underlying415
 a146:=Tryz.isAgg415
 z146:=Tryz.sizeOf415
 v146:=Tryz.zeroValue415
 g1:=by kernel_rfl }
theorem Tryz.strings_Cut(s a:BY)(m:Int)(w:World)(hs:s.size<4294967281)(hm:w.cell? ⟨5,0,none⟩=some (Sc Se m)):
 Calls prog 256 #[Sb s,Sb a] w λe w'=>e=Sf (.tuple #[Sb ⟨(Lib.cut s.data.toList a.data.toList).1.toArray⟩,Sb ⟨(Lib.cut s.data.toList a.data.toList).2.1.toArray⟩,.bool (Lib.cut s.data.toList a.data.toList).2.2])/\∃n,w'=w.drewN n:=Any.strings_Cut Tryz.lays145 s a m w hs hm
