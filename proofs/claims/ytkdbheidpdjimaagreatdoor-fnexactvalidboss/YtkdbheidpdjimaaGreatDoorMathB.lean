import Derived.Test.YtkdbheidpdjimaaGreatDoorProg
import Derived.Below
import Derived.WalkKit
import Derived.Laws.BytesArg
import Derived.WalkSpells
import Derived.WalkLawsBesides
set_option linter.unusedVariables false
set_option maxHeartbeats 8000000
set_option maxRecDepth 100000
namespace Go.Proofs
variable {p:Prop} {u v w:World} {n:Nat} {α:Type}
theorem U0 (h:p):Go.RowKit.Hid p:=h
theorem o7 {o:Obj}:Go.RowKit.Below w.heap.size w (w.alloc o):=(Go.RowKit.Below.refl _ _).alloc (Nat.le_refl _) _
theorem G7 (h:Go.RowKit.Below w.heap.size w u) (k:Go.RowKit.Below u.heap.size u v):Go.RowKit.Below w.heap.size w v:=h.trans (k.mono h.size)
theorem O0 (h:p:=by omega):p:=h
theorem U7 (h:p:=by simp;omega):p:=h
theorem I4 (h:p:=by simp):p:=h
theorem O6 (h:p:=by decide):p:=h
theorem J3 (h:p:=by kernel_rfl):p:=h
theorem x9:n<=n:=Nat.le_refl n
@[go_sem] abbrev vI (x:Int):Value:=.int .i64 x
@[go_sem] abbrev vS (x:ByteArray):Value:=.string x
@[go_sem] abbrev vL (a:Option Addr) (n c:Nat):Value:=.slice a n c
@[go_sem] abbrev vN:Value:=.slice none 0 0
@[go_sem] abbrev vE:Value:=.string ⟨#[]⟩
@[go_sem] abbrev vO:Value:=.int .i64 0
@[go_sem] abbrev aA (b o:Nat):Addr:=⟨b,o,none⟩
@[go_sem] abbrev aW (w:World) (o:Nat):Addr:=⟨w.heap.size,o,none⟩
abbrev BY:=ByteArray
abbrev LB:=List ByteArray
abbrev OA:=Option Addr
abbrev Bw (w w':World):Prop:=Go.RowKit.Below w.heap.size w w'
theorem lF (h:Bw u v) (e:u.heap.size=n:=by simp<;>rfl):Go.RowKit.Below n u v:=e▸h
theorem gz:(∀ (a:α) (l:List α),(a::l)[0]?=some a)/\∀ {α:Type} (a:α) (l:List α) (i:Nat),(a::l)[i+1]?=l[i]?:=⟨fun _ _=>rfl,fun _ _ _=>rfl⟩
theorem Nc {l:List α} {k:Nat} {P:Prop} (h:l=[]\/P) (hk:k<l.length):P:=h.elim (fun e=>by rw [e] at hk;exact absurd hk (Nat.not_lt_zero _)) id
abbrev D5:=@Nat.zero_le
abbrev Z4:=@Go.RowKit.Below.refl
abbrev y9:=@List.getElem?_eq_getElem
abbrev Q7:=@Nat.le_trans
abbrev o8:=@Nat.lt_or_ge
abbrev N9:=@List.length_append
abbrev E8:=@Nat.zero_add
abbrev o9:=@Nat.not_lt_zero
abbrev La:=@Go.World.cell?_setCell_other
abbrev m_:=@Nat.lt_of_lt_of_le
abbrev P5:=@congrArg
abbrev P7:=@Go.bodyPost_ret
abbrev D_:=@Array.getElem?_eq_some_iff
abbrev I_:=@List.getElem?_append_left
abbrev u_:=@List.take_of_length_le
abbrev n_:=@beq_eq_false_iff_ne
abbrev P9:=@decide_eq_false
abbrev Q9:=@Option.some.inj
abbrev Ya:=@List.length_eq_zero_iff
abbrev A_:=@List.length_cons
abbrev B_:=@List.length_take
abbrev Cf:=@List.getElem?_append_right
abbrev Ec:=@List.getElem?_eq_none
abbrev y_:=@decide_eq_true
abbrev Bf:=@Go.World.cell?_setCell_same
abbrev M_:=@List.nil_append
abbrev Fb:=@Go.RowKit.Below.heap_setCell
abbrev Fa:=@Bool.and_eq_true
abbrev Y9:=@Nat.le_refl
abbrev Ee:=@List.getElem_of_mem
abbrev Ac:=@Option.getD_some
abbrev A8:=@if_neg
abbrev G8:=@if_pos
abbrev Fe:=@decide_eq_true_eq
abbrev Lc:=@List.length_map
abbrev ug:=@List.mem_cons_of_mem
abbrev Pj:=@List.getD_eq_getElem?_getD
abbrev Nj:=@List.getElem?_eq_some_iff
abbrev Xe:=@List.length_nil
abbrev ng:=@Go.World.ownsRow_nil
abbrev Wh:=@Go.World.cell?_alloc_lt
abbrev Gi:=@List.take_append_drop
abbrev Uf:=@List.cons_append
abbrev Pg:=@List.flatMap_cons
abbrev Ej:=@List.length_singleton
abbrev ve:=@List.mem_cons
abbrev Uh:=@Bool.eq_false_iff
abbrev Fg:=@List.map_append
abbrev jh:=@List.mem_append
abbrev qg:=@ByteArray.ext
abbrev Ei:=@UInt8.toNat_inj
abbrev Ci:=@List.cons.injEq
abbrev Qj:=@List.length_drop
abbrev Zm:=@Go.World.cell?_of_block
abbrev Bj:=@List.getElem_mem
abbrev Ql:=@Bool.false_ne_true
abbrev Uj:=@List.take_length
abbrev Uy:=@List.take_succ_eq_append_getElem
abbrev Bq:=@Array.getElem?_eq_none
abbrev zq:=@List.drop_of_length_le
abbrev Rl:=@Array.toList_inj
abbrev Xr:=@decide_eq_false_iff_not
abbrev Ym:=@Go.DataW.trod_string
abbrev Vk:=@Nat.min_eq_left
abbrev Dq:=@List.flatMap_append
abbrev Un:=@Go.Result.andThen_ok
abbrev xw:=@Go.World.frozen?_alloc_old
abbrev Gq:=@List.mem_cons_self
abbrev Xz:=@List.drop_eq_getElem_cons
abbrev Gt:=@List.length_pos_iff
abbrev pq:=@List.take_add_one
abbrev oq:=@List.append_assoc
abbrev Ho:=@List.all_append
abbrev Iq:=@List.all_eq_true
abbrev Qk:=@Go.Sem.run_bind
abbrev Jl:=@List.mem_map
abbrev bn:=@List.cons.inj
abbrev Zr:=@List.getElem?_map
abbrev zn:=@Int.lt_or_le
abbrev Kt:=@List.not_mem_nil
abbrev dw:=@List.mem_singleton
abbrev QB:=@List.getElem?_take_of_lt
abbrev Ov:=@Option.isSome_some
abbrev Zv:=@Bool.false_eq_true
abbrev Fq:=@Go.DataW.trod_int
abbrev qy:=@List.mem_of_mem_take
abbrev Aw:=@Nat.lt_trichotomy
abbrev Uo:=@Go.Sem.run_pure
abbrev Zo:=@Nat.add_zero
abbrev Tv:=@Go.RowKit.Below.heap_alloc
abbrev Jv:=@Nat.le_of_not_lt
abbrev Ny:=@List.pairwise_cons
abbrev Gs:=@List.mem_range
abbrev qC:=@List.eq_nil_or_concat
abbrev zB:=@List.concat_eq_append
abbrev Fv:=@Option.map_some
abbrev jq:=@Nat.le_of_eq
abbrev Pv:=@List.mem_filter
abbrev jw:=@List.foldl_cons
abbrev Gy:=@Go.Value.slice.injEq
abbrev lm:=@List.all_cons
abbrev Cm:=@List.map_cons
abbrev Wu:=@List.map_congr_left
abbrev Xt:=@Array.length_toList
abbrev Xo:=@Go.run_underlying
abbrev Kq:=@List.flatMap_nil
abbrev Ak:=@Int.le_refl
abbrev Iu:=@Nat.eq_zero_or_pos
abbrev gu:=@List.filter_append
abbrev Yl:=@Classical.em
abbrev Wl:=@Nat.succ_mul
abbrev Um:=@Nat.sub_self
abbrev Bz:=@Nat.le_of_ble_eq_true
abbrev Iz:=@List.length_replicate
abbrev jv:=@Option.some.injEq
abbrev Ku:=@Go.World.ownsRow_lit
abbrev Hy:=@Array.replicate_succ
abbrev Yy:=@Array.replicate_zero
abbrev ZI:=@ByteArray.getElem_eq_getElem_data
abbrev Bv:=@Nat.lt_succ_self
abbrev Ry:=@List.append_toArray
abbrev Px:=@List.find?_eq_none
abbrev uz:=@List.getElem?_take
abbrev zD:=@Option.map_eq_some_iff
abbrev Yn:=@Nat.le_succ
abbrev XI:=@List.take_append_of_le_length
abbrev II:=@List.drop_append_of_le_length
abbrev Dz:=@Int.toNat_natCast
abbrev Wx:=@List.size_toArray
abbrev JA:=@List.push_toArray
abbrev Uu:=@Bool.and_false
abbrev Wq:=@Nat.zero_mul
abbrev Rq:=@Nat.sub_zero
abbrev ny:=@List.ext_getElem
abbrev Zn:=@beq_iff_eq
abbrev Zx:=@List.map_toArray
abbrev jI:=@Nat.mod_two_eq_zero_or_one
abbrev fF:=@List.mem_map_of_mem
abbrev Tz:=@List.append_nil
abbrev PI:=@Array.getElem?_eq_getElem
abbrev wE:=@UInt8.toNat_ofNat'
abbrev Vm:=@Go.run_make
abbrev xu:=@List.map_map
abbrev ou:=@Go.wpList_plain
abbrev OD:=@List.getElem?_drop
abbrev Qu:=@List.map_nil
abbrev iD:=@Option.isSome_none
abbrev Vt:=@Go.Addr.add_lit
abbrev Xn:=@false_iff
abbrev jA:=@Bool.false_and
abbrev Nq:=@bne_iff_ne
abbrev Zz:=@List.take_zero
abbrev NE:=@List.getElem_take
abbrev UD:=@List.foldl_append
abbrev Az:=@Bool.and_true
abbrev dD:=@List.getElem_map
abbrev KD:=@Option.getD_none
abbrev SE:=@List.mem_flatMap
abbrev NH:=@List.length_filter_le
abbrev bJ:=@ByteArray.size_append
abbrev Qy:=@List.all_nil
abbrev VE:=@List.range_succ
abbrev RI:=@List.mem_of_mem_drop
abbrev BI:=@List.getLastD_concat
abbrev ZH:=@Go.World.ownsRow.alloc
abbrev aI:=@List.filter_eq_self
abbrev dJ:=@Go.World.grownBy_alloc
abbrev UC:=@List.drop_zero
abbrev mF:=@List.Perm.refl
abbrev QD:=@List.drop_drop
abbrev xI:=@Nat.add_sub_cancel
abbrev NI:=@Go.World.ownsRow_made
abbrev Qm:=@not_or
abbrev nI:=@Bool.not_eq_true'
abbrev YH:=@Nat.le_succ_of_le
abbrev KH:=@Classical.not_not
abbrev lI:=@of_decide_eq_true
abbrev kF:=@Nat.le_of_lt
abbrev JE:=@UInt8.not_lt
abbrev AQ:=@Option.isSome_iff_exists
abbrev MH:=@Go.IntKind.wrap_i64
abbrev LQ:=@List.getElem?_cons_succ
abbrev fJ:=@List.headD_cons
abbrev WH:=@Go.DataW.trod_bool
abbrev yI:=@List.find?_some
abbrev iI:=@Bool.or_eq_true
abbrev gJ:=@UInt8.lt_irrefl
abbrev WC:=@List.map_id
abbrev yD:=@Nat.min_def
abbrev TI:=@List.drop_take
abbrev QH:=@Bool.not_false
abbrev zy:=@true_and
abbrev SI:=@Bool.and_self
abbrev OI:=@Prod.mk.injEq
abbrev jJ:=@Bool.not_true
end Go.Proofs
namespace Go.Proofs.YtkdbheidpdjimaaGreatDoor
open Proofs.Tryz Go.RowKit
def hstep (x:Int) (c:UInt8):Int:=IntKind.u64.wrap (bits BinOp.xor IntKind.u64 x (IntKind.u64.wrap (c.toNat:Int))*1099511628211)
def hsum (l:List UInt8):Int:=l.foldl hstep 14695981039346656037
theorem pz (x:Int):0<=IntKind.u64.wrap x/\IntKind.u64.wrap x<=18446744073709551615:=by
 simp [IntKind.wrap,IntKind.signed,IntKind.bits];omega
theorem Rj (l:List UInt8):0<=hsum l/\hsum l<=18446744073709551615:=by
 unfold hsum;rcases qC l with h | ⟨l',c,h⟩
 · subst h;simp
 · subst h;simp only [zB,UD,jw,List.foldl_nil];exact pz _
theorem WB (l:List UInt8) (c:UInt8):hsum (l++[c])=hstep (hsum l) c:=by simp [hsum]
theorem take_snoc (s:BY) (k:Nat) (h:k<s.size):s.data.toList.take (k+1)=s.data.toList.take k++[s[k]]:=by
 rw [Uy (by simpa using h)];rfl
def lS (v:Int):Nat->Int
 | 0=>v
 | k+1=>lS v k / 256
def outs (v:Int):Nat->List Int
 | 0=>[]
 | k+1=>(lS v k % 256)::outs v k
theorem En (v:Int) (k:Nat):(outs v k).length=k:=by induction k with
 | zero=>rfl
 | succ k ih=>simp [outs,ih]
theorem OB (v:Int) (h0:0<=v) (h1:v<=18446744073709551615) (k:Nat):0<=lS v k/\lS v k<=18446744073709551615:=by
 induction k with
 | zero=>exact ⟨h0,h1⟩
 | succ k ih=>simp only [lS];omega
theorem QR (x:Int) (l:List Int):strOfNums [x]++strOfNums l=strOfNums (x::l):=by
 apply qg;simp [strOfNums]
def kc (X:Int) (k j:Nat):Int:=if 8<=j+k then lS X (7 - j) % 256 else 0
theorem wS (X:Int) (j:Nat) (_h:j<8):kc X 0 j=0:=by unfold kc;rw [if_neg O0]
theorem vU (X:Int) (k:Nat) (h:k<8):kc X (k+1) (7 - k)=lS X k % 256:=by
 unfold kc;rw [if_pos O0];congr 2;omega
theorem NP (X:Int) (k j:Nat) (_h:k<8) (_hj:j<8) (hne:j≠7 - k):kc X (k+1) j=kc X k j:=by
 unfold kc;by_cases h1:8<=j+k
 · rw [G8 O0,G8 h1]
 · rw [A8 O0,A8 h1]
theorem IL (X:Int) (k i:Nat) (h:i<k):(outs X k).getD i 0=lS X (k - 1 - i) % 256:=by
 induction k generalizing i with
 | zero=>omega
 | succ k ih=>
  cases i with
  | zero=>simp [outs]
  | succ i=>
   simp only [outs,List.getD_cons_succ];rw [ih i O0]
   congr 2
   omega
theorem iV (X:Int) (k i:Nat) (hk:k<=8) (h:i<k):kc X k (8 - k+i)=(outs X k).getD i 0:=by
 rw [IL X k i h];unfold kc;rw [G8 O0]
 congr 2
 omega
theorem Fp {k:IntKind} {a b:Int} (h:a=b):Ending.returned (.int k a)=.returned (.int k b):=by rw [h]
theorem a1W (s:BY) (w:World) (hs:s.size<=1048700):
 Calls prog 245 #[.string s] w fun e w'=>e=.returned (.int .u64 (hsum s.data.toList))/\w'=w:=by
 go_enter func245,ntmps245;go_wp2;go_loop [3,4] (fun v i=>∃ k:Nat,k<=s.size/\i=.int .i64 k/\v=.int .u64 (hsum (s.data.toList.take k))) (fun _ i=>s.size - (intOf i).toNat)
 case atStart=>exact ⟨0,D5 _,rfl,rfl⟩
 case round=>
  obtain ⟨k,hk,rfl,rfl⟩:=hrel;have hx:=Rj (s.data.toList.take k);by_cases a:k<s.size
  · have b:Hid (hsum (s.data.toList.take (k+1))=hstep (hsum (s.data.toList.take k)) s[k]):=by rw [take_snoc s k a];exact WB _ _
    go_wp2
    go_round
    case rel=>exact ⟨k+1,O0,by go_num,by rw [b.out];rfl⟩
    case measure=>simp [intOf];omega
  · go_wp2;go_ret;exact ⟨Fp (by rw [u_ U7]),rfl⟩
theorem c212 (s:BY) (w:World) (hs:s.size<=1048700):
 Calls prog 212 #[.string s] w fun e w'=>e=.returned (.int .u64 (hsum s.data.toList))/\w'=w:=by
 go_enter func212,ntmps212;go_wp2;go_loop [3,7] (fun v i=>∃ k:Nat,k<=s.size/\i=.int .i64 k/\v=.int .u64 (hsum (s.data.toList.take k))) (fun _ i=>s.size - (intOf i).toNat)
 case atStart=>exact ⟨0,D5 _,rfl,rfl⟩
 case round=>
  obtain ⟨k,hk,rfl,rfl⟩:=hrel;have hx:=Rj (s.data.toList.take k);by_cases a:k<s.size
  · have b:Hid (hsum (s.data.toList.take (k+1))=hstep (hsum (s.data.toList.take k)) s[k]):=by rw [take_snoc s k a];exact WB _ _
    go_wp2
    go_round
    case rel=>exact ⟨k+1,O0,by go_num,by rw [b.out];rfl⟩
    case measure=>simp [intOf];omega
  · go_wp2;go_ret;exact ⟨Fp (by rw [u_ U7]),rfl⟩
theorem dS (u:World) (y:Int):(convert 243 9 (.slice (some ⟨u.heap.size,0,none⟩) 1 1)).run prog (u.alloc (.cells #[.int .u8 y] 5))=.ok (.string (strOfNums [y])) (u.alloc (.cells #[.int .u8 y] 5)):=
 run_convert_bytes_arg _ 243 5 underlying243 underlying5 _ 0 1 1 [y] rfl (fun i hi=>by
  obtain rfl:i=0:=O0;simp) 9 underlying9
theorem a0X (v:Int) (n:Nat) (w:World) (d:0<=v) (c:v<=18446744073709551615) (hn:n<=8):
 Calls prog 244 #[.int .u64 v,.int .i64 n] w fun e w'=>e=.returned (.string (strOfNums (outs v n)))/\Bw w w':=by
 have hcv:=dS;have hz:∀ y,(strOfNums [y]).size=1:=fun y=>strOfNums_size [y];go_enter func244,ntmps244;go_wp2;go_loopw [0,5,6] (fun a o i wr=>∃ k:Nat,k<=n/\i=.int .i64 k/\a=.int .u64 (lS v k)/\o=.string (strOfNums (outs v k))/\Below w.heap.size w wr) (fun _ _ i _=>n - (intOf i).toNat)
 case atStart=>exact ⟨0,D5 _,rfl,rfl,rfl,Z4 _ _⟩
 case round=>
  obtain ⟨k,hk,rfl,rfl,rfl,b⟩:=hrel;have hx:=OB v d c k;have hq:(strOfNums (outs v k)).size=k:=by rw [strOfNums_size,En]
  by_cases hlt:k<n
  · go_wp2;go_roundw
    case rel=>exact ⟨k+1,O0,by go_num,rfl,by rw [QR];rfl,b.alloc b.size _⟩
    case measure=>simp [intOf];omega
  · go_wp2;go_ret;obtain rfl:k=n:=O0;exact ⟨rfl,b⟩
theorem a0D (s:BY) (n:Nat) (w:World) (hn:n<=8) (g:s.size<=1048700):
 Calls prog 169 #[.string s,.int .i64 n] w fun e w'=>(∃ X,X=hsum s.data.toList/\e=.returned (.agg #[.int .u8 (kc X n 0),.int .u8 (kc X n 1),.int .u8 (kc X n 2),.int .u8 (kc X n 3),.int .u8 (kc X n 4),.int .u8 (kc X n 5),.int .u8 (kc X n 6),.int .u8 (kc X n 7)]))/\Bw w w':=by
 go_enter func169,ntmps169
 go_wp2_with fail
 refine (c212 _ _ g).mono ?_;rintro e w' ⟨rfl,rfl⟩;have hx:=Rj s.data.toList;generalize hX:hsum s.data.toList=X at*;have z:Hid (X=hsum s.data.toList):=hX.symm;clear hX
 go_wp2_with fail
 go_loopw [6,11] (fun a i wr=>∃ k:Nat,k<=n/\i=.int .i64 k/\a=.int .u64 (lS X k)/\Below w.heap.size w wr/\w.heap.size+2<=wr.heap.size/\(∀ j,j<8->wr.cell? ⟨w.heap.size+1,j,none⟩=some (.int .u8 (kc X k j)))/\(∀ j,wr.frozen? ⟨w.heap.size+1,j,none⟩=false)/\(∀ j,j<8->wr.cell? ⟨w.heap.size,j,none⟩=some (.int .u8 0))/\(∀ j,wr.frozen? ⟨w.heap.size,j,none⟩=false)) (fun _ i _=>n - (intOf i).toNat)
 case atStart=>
  refine ⟨0,D5 _,rfl,rfl,o7.alloc I4 _,I4,?_,?_,?_,?_⟩
  · intro j b;rw [wS X j b];rcases j with _ | _ | _ | _ | _ | _ | _ | _ | j <;> first | omega | simp
  · intro j;simp
  · intro j b;rcases j with _ | _ | _ | _ | _ | _ | _ | _ | j <;> first | omega | simp
  · intro j;simp
 case round=>
  obtain ⟨k,hk,rfl,rfl,c,f,h1,d,h0,l⟩:=hrel;have hx:=OB X hx.1 hx.2 k;by_cases hlt:k<n
  · have g1:=h1 (7 - k) O0;have g2:=d (7 - k);go_wp2;go_roundw
    case rel=>
     refine ⟨k+1,O0,by go_num,rfl,c.setCell I4 _,by simpa using f,?_,?_,?_,?_⟩
     · intro j b;by_cases e:j=7 - k
       · subst e;rw [vU X k O0];exact Bf _ _ _ g1
       · rw [NP X k j O0 b e,<- h1 j b];exact La _ _ _ _ (by intro h;injection h with h1 h2;exact e h2.symm)
     · intro j;rw [<- d j];simp
     · intro j b;rw [<- h0 j b];exact La _ _ _ _ I4
     · intro j;rw [<- l j];simp
    case measure=>simp [intOf];omega
  · have a0:=h1 0 O0;have a1:=h1 1 O0;have a2:=h1 2 O0;have a3:=h1 3 O0;have a4:=h1 4 O0;have a5:=h1 5 O0;have a6:=h1 6 O0;have a7:=h1 7 O0;have b0:=h0 0 O0;have y:=h0 1 O0;have t:=h0 2 O0;have r:=h0 3 O0;have q:=h0 4 O0;have p:=h0 5 O0;have o:=h0 6 O0;have m:=h0 7 O0;clear h1 h0;go_wp2;obtain rfl:k=n:=O0;refine P7 (v:=.agg #[.int .u8 (kc X k 0),.int .u8 (kc X k 1),.int .u8 (kc X k 2),.int .u8 (kc X k 3),.int .u8 (kc X k 4),.int .u8 (kc X k 5),.int .u8 (kc X k 6),.int .u8 (kc X k 7)]) (by simp [results,results169,go_sem,b0,y,t,r,q,p,o,m]) rfl ⟨⟨X,z.out,rfl⟩,?_⟩;have st:∀ (u:World) (j:Nat) (x:Value),Bw w u->Bw w (u.setCell (aW w j) x):=fun u j x h=>h.setCell x9 x
    iterate 8 refine st _ _ _ ?_
    exact c
def E5 (s:BY) (n:Int):BY:=if 1<=n/\n<=8 then strOfNums (outs (hsum s.data.toList) n.toNat) else ByteArray.empty
theorem c17 (n l h:Int) (w:World):
 Calls prog 17 #[.int .i64 n,.int .i64 l,.int .i64 h] w fun e w'=>e=.returned (.bool (decide (l<=n/\n<=h)))/\w'=w:=by
 by_cases h1:l<=n <;> by_cases h2:n<=h
 all_goals
  go_enter func17,ntmps17;go_wp2
  all_goals go_ret
  all_goals exact ⟨by simp [*],rfl⟩
theorem c16 (n:Int) (w:World):
 Calls prog 16 #[.int .i64 n] w fun e w'=>e=.returned (.bool (decide (1<=n/\n<=8)))/\w'=w:=by
 go_enter func16,ntmps16
 go_wp2_with (go_at_call 17;refine (c17 _ _ _ _).mono ?_;rintro e w' ⟨rfl,rfl⟩)
 go_ret;exact ⟨I4,rfl⟩
theorem c67 (n:Int) (w:World):
 Calls prog 67 #[.int .i64 n] w fun e w'=>e=.returned (.bool (decide (1<=n/\n<=8)))/\w'=w:=by
 by_cases h1:1<=n <;> by_cases h2:n<=8
 all_goals
  go_enter func67,ntmps67;go_wp2
  all_goals go_ret
  all_goals exact ⟨by simp [*],rfl⟩
theorem Iw (s:BY) (n:Int) (w:World) (b:s.size<=1048700):
 Calls prog 207 #[.string s,.int .i64 n] w fun e w'=>e=.returned (.string (E5 s n))/\Bw w w':=by
 by_cases h:1<=n/\n<=8
 · have hd:decide (1<=n/\n<=8)=true:=by simpa using h
   have hx:=Rj s.data.toList;obtain ⟨k,rfl⟩:=Int.eq_ofNat_of_zero_le (show 0<=n by omega);have a:Hid (E5 s k=strOfNums (outs (hsum s.data.toList) k)):=by unfold E5;rw [if_pos h];rfl
   go_enter func207,ntmps207
   go_wp2_with fail
   refine (c16 _ _).mono ?_;rintro e w' ⟨rfl,rfl⟩;rw [hd]
   go_wp2_with fail
   refine (a1W _ _ b).mono ?_;rintro e w' ⟨rfl,rfl⟩
   go_wp2_with fail
   refine (a0X _ _ _ hx.1 hx.2 O0).mono ?_;rintro e w' ⟨rfl,c⟩;go_wp2;go_ret;exact ⟨by rw [a.out];rfl,c⟩
 · have hd:decide (1<=n/\n<=8)=false:=by simpa using h
   have a:Hid (E5 s n=ByteArray.empty):=by unfold E5;rw [if_neg h];rfl
   go_enter func207,ntmps207
   go_wp2_with fail
   refine (c16 _ _).mono ?_;rintro e w' ⟨rfl,rfl⟩;rw [hd];go_wp2;go_ret;exact ⟨by rw [a.out];rfl,Z4 _ _⟩
theorem a0I (u:World) (b k:Nat) (h1:1<=k) (h2:k<=8):
 (Instr.sliceAt 264 (.pointer (some ⟨b,0,none⟩)) (some (.int .i64 (8 - (k:Int)))) none none).run prog u=.ok (.slice (some ⟨b,8 - k,none⟩) k k) u:=by
 obtain rfl | rfl | rfl | rfl | rfl | rfl | rfl | rfl:k=1\/k=2\/k=3\/k=4\/k=5\/k=6\/k=7\/k=8:=O0
 all_goals kernel_rfl
theorem PZ (u:World) (X:Int) (k:Nat) (h2:k<=8):
 (convert 243 9 (.slice (some ⟨u.heap.size,8 - k,none⟩) k k)).run prog (u.alloc (.cells #[.int .u8 (kc X k 0),.int .u8 (kc X k 1),.int .u8 (kc X k 2),.int .u8 (kc X k 3),.int .u8 (kc X k 4),.int .u8 (kc X k 5),.int .u8 (kc X k 6),.int .u8 (kc X k 7)] 264))
  =.ok (.string (strOfNums (outs X k))) (u.alloc (.cells #[.int .u8 (kc X k 0),.int .u8 (kc X k 1),.int .u8 (kc X k 2),.int .u8 (kc X k 3),.int .u8 (kc X k 4),.int .u8 (kc X k 5),.int .u8 (kc X k 6),.int .u8 (kc X k 7)] 264)):=
 run_convert_bytes_arg _ 243 5 underlying243 underlying5 _ (8 - k) k k (outs X k) (En X k) (fun i b=>by
  rw [<- iV X k i h2 b];have a:8 - k+i<8:=O0;generalize 8 - k+i=j at a ⊢;obtain rfl | rfl | rfl | rfl | rfl | rfl | rfl | rfl:j=0\/j=1\/j=2\/j=3\/j=4\/j=5\/j=6\/j=7:=O0
  all_goals simp) 9 underlying9
theorem MI (s:BY) (n:Int) (w:World) (f:s.size<=1048700):
 Calls prog 112 #[.string s,.int .i64 n] w fun e w'=>e=.returned (.string (E5 s n))/\Bw w w':=by
 by_cases h:1<=n/\n<=8
 · have hd:decide (1<=n/\n<=8)=true:=by simpa using h
   have hx:=Rj s.data.toList;obtain ⟨k,rfl⟩:=Int.eq_ofNat_of_zero_le (show 0<=n by omega);have a:Hid (E5 s k=strOfNums (outs (hsum s.data.toList) k)):=by unfold E5;rw [if_pos h];rfl
   go_enter func112,ntmps112
   go_wp2_with fail
   refine (c67 _ _).mono ?_;rintro e w' ⟨rfl,rfl⟩;rw [hd]
   go_wp2_with fail
   refine (a0D _ _ _ O0 f).mono ?_;rintro e w' ⟨⟨X,d,rfl⟩,c⟩;have g:Hid (X=hsum s.data.toList):=d;clear d;have g1:=fun (u:World) (b:Nat)=>a0I u b k O0 O0;have g2:=fun (u:World)=>PZ u X k O0;go_wp2;go_ret;exact ⟨by rw [a.out,<- g.out];rfl,c.alloc c.size _⟩
 · have hd:decide (1<=n/\n<=8)=false:=by simpa using h
   have a:Hid (E5 s n=ByteArray.empty):=by unfold E5;rw [if_neg h];rfl
   go_enter func112,ntmps112
   go_wp2_with fail
   refine (c67 _ _).mono ?_;rintro e w' ⟨rfl,rfl⟩;rw [hd];go_wp2;go_ret;exact ⟨by rw [a.out];rfl,Z4 _ _⟩
def t_ (c:UInt8):Bool:=decide (48<=(c.toNat:Int)/\(c.toNat:Int)<=57)
def Zj (c:UInt8):Bool:=decide (33<=(c.toNat:Int)/\(c.toNat:Int)<=126)
def o6 (l:List UInt8):Bool:=decide (1<=l.length/\l.length<=20)&&l.all Zj
def lW (n:Int) (c:UInt8):Int:=n*10+((c.toNat:Int) - 48)
def val (l:List UInt8):Int:=l.foldl lW 0
theorem Ve (l:List UInt8) (c:UInt8):val (l++[c])=val l*10+((c.toNat:Int) - 48):=by simp [val,lW]
theorem Ce (c:UInt8):t_ c=true↔48<=(c.toNat:Int)/\(c.toNat:Int)<=57:=by simp [t_]
theorem Np (c:UInt8):Zj c=true↔33<=(c.toNat:Int)/\(c.toNat:Int)<=126:=by simp [Zj]
theorem Lr {P:List UInt8->Prop} (h0:P []) (h1:∀ l c,P l->P (l++[c])) (l:List UInt8):P l:=by
 have h:∀ r:List UInt8,P r.reverse:=fun r=>by
  induction r with
  | nil=>exact h0
  | cons c r ih=>rw [List.reverse_cons];exact h1 _ _ ih
 have:=h l.reverse
 rwa [List.reverse_reverse] at this
theorem Vl (l:List UInt8):l.all t_=true->0<=val l:=by
 refine Lr (P:=fun l=>l.all t_=true->0<=val l) (by simp [val]) (fun l c a h=>?_) l;rw [Ho] at h;simp only [lm,Qy,Az,Fa] at h;have:=a h.1;have hc:=(Ce c).1 h.2;rw [Ve];omega
theorem Qo (l:List UInt8):l.all t_=true->∀ k,val (l.take k)<=val l:=by
 refine Lr (P:=fun l=>l.all t_=true->∀ k,val (l.take k)<=val l) (by simp [val]) (fun l c a h k=>?_) l;rw [Ho] at h;simp only [lm,Qy,Az,Fa] at h;by_cases b:k<=l.length
 · rw [XI b,Ve];have:=a h.1 k;have h0:=Vl l h.1;have hc:=(Ce c).1 h.2;omega
 · rw [u_ U7];exact Ak _
def Ub (l:List UInt8):Bool:=!l.isEmpty&&!(l.headD 0==48&&!(l==[48]))
def Be (l:List UInt8):Bool:=Ub l&&l.all t_&&decide (val l<=40)
def UA:Nat->Int->List UInt8
 | 0,_=>[]
 | f+1,n=>if n<10 then [UInt8.ofNat (48+n).toNat] else UA f (n / 10)++[UInt8.ofNat (48+n % 10).toNat]
def dec (n:Int):List UInt8:=UA (n.toNat+1) n
theorem fO (f g:Nat) (n:Int) (h0:0<=n) (hf:n.toNat<f) (hg:n.toNat<g):UA f n=UA g n:=by
 induction f generalizing g n with
 | zero=>omega
 | succ f ih=>
  cases g with
  | zero=>omega
  | succ g=>
   simp only [UA];by_cases h:n<10
   · rw [G8 h,G8 h]
   · rw [A8 h,A8 h,ih g (n / 10) O0 O0 O0]
theorem dec_lt (n:Int) (h:n<10):dec n=[UInt8.ofNat (48+n).toNat]:=by simp [dec,UA,h]
theorem Ko (n:Int) (h:10<=n):dec n=dec (n / 10)++[UInt8.ofNat (48+n % 10).toNat]:=by
 unfold dec;rw [UA,A8 O0,fO n.toNat ((n / 10).toNat+1) (n / 10) O0 O0 O0]
theorem gI (n:Int):dec n≠[]:=by
 by_cases h:n<10
 · rw [dec_lt n h];simp
 · rw [Ko n O0];simp
theorem VL (c:UInt8) (h:t_ c=true):UInt8.ofNat (48+((c.toNat:Int) - 48)).toNat=c:=by
 have:=(Ce c).1 h;rw [show (48+((c.toNat:Int) - 48)).toNat=c.toNat by omega];exact UInt8.ofNat_toNat
theorem Vw (l:List UInt8):l.all t_=true->Ub l=true->dec (val l)=l/\(2<=l.length->10<=val l)/\(l.headD 0≠48->1<=val l):=by
 refine Lr (P:=fun l=>l.all t_=true->Ub l=true->dec (val l)=l/\(2<=l.length->10<=val l)/\(l.headD 0≠48->1<=val l)) (by simp [Ub]) (fun l c b h hl=>?_) l;rw [Ho] at h;simp only [lm,Qy,Az,Fa] at h;have hc:=(Ce c).1 h.2;have hd:=VL c h.2
 cases l with
 | nil=>
  have e:val ([]++[c])=(c.toNat:Int) - 48:=by rw [Ve];simp [val]
  rw [e];refine ⟨?_,I4,?_⟩
  · rw [dec_lt _ O0,hd];rfl
  · intro h1;simp at h1;have:c.toNat≠48:=fun e=>h1 (by rw [<- Ei];exact e);omega
 | cons a r=>
  have ha:a≠48:=by
   intro e;subst e;simp [Ub] at hl
  have f:Ub (a::r)=true:=by simp [Ub,ha]
  obtain ⟨h1,_,i⟩:=b h.1 f;have h4:=i (by simpa using ha);rw [Ve];have g:(val (a::r)*10+((c.toNat:Int) - 48)) / 10=val (a::r):=O0;have d:(val (a::r)*10+((c.toNat:Int) - 48)) % 10=(c.toNat:Int) - 48:=O0;refine ⟨?_,fun _=>O0,fun _=>O0⟩;rw [Ko _ O0,g,d,h1,hd]
theorem MG (f:Nat) (n:Int) (h0:0<=n) (hf:n.toNat<f):Ub (dec n)=true/\(1<=n->(dec n).headD 0≠48):=by
 induction f generalizing n with
 | zero=>omega
 | succ f ih=>
  by_cases h:n<10
  · rw [dec_lt n h];obtain rfl | rfl | rfl | rfl | rfl | rfl | rfl | rfl | rfl | rfl:n=0\/n=1\/n=2\/n=3\/n=4\/n=5\/n=6\/n=7\/n=8\/n=9:=O0
    all_goals decide
  · obtain ⟨h1,h2⟩:=ih (n / 10) O0 O0;have c:=h2 O0;rw [Ko n O0];have b:=gI (n / 10);generalize dec (n / 10)=l at*
    cases l with
    | nil=>exact absurd rfl b
    | cons a r=>
     have ha:a≠48:=by simpa using c
     exact ⟨by simp [Ub,ha],fun _=>by simpa using ha⟩
theorem Gv (l:List UInt8) (h:l.all t_=true) (hl:Ub l=true) (b:val l<=40):l.length<=2:=by
 rcases o8 2 l.length with h2 | h2
 · exfalso;rcases qC l with e | ⟨r,c,e⟩
   · subst e;simp at h2
   · rw [zB] at e;subst e;rw [Ho] at h;simp only [lm,Qy,Az,Fa] at h;have hr:2<=r.length:=by simp at h2;omega
     cases r with
     | nil=>simp at hr
     | cons a r=>
      have ha:a≠48:=by
       intro e;subst e;simp [Ub] at hl
      have:=(Vw (a::r) h.1 (by simp [Ub,ha])).2.1 hr;have hc:=(Ce c).1 h.2;rw [Ve] at b;omega
 · exact h2
theorem yO (f:Nat) (n:Int):(UA f n).length<=f:=by
 induction f generalizing n with
 | zero=>simp [UA]
 | succ f ih=>
  simp only [UA];by_cases h:n<10
  · rw [G8 h];simp
  · rw [A8 h];have:=ih (n / 10);simp;omega
theorem TJ (n:Int) (h:0<=n) (h1:n<=100000000):(dec n).length<=100000001:=by
 have:=yO (n.toNat+1) n;unfold dec;omega
theorem yQ (n:Int) (h:0<=n) (h1:n<=100000000):IntKind.i64.wrap (n.tdiv 10)=n / 10:=by
 rw [Int.tdiv_eq_ediv_of_nonneg h];simp [IntKind.wrap,IntKind.signed,IntKind.bits];omega
