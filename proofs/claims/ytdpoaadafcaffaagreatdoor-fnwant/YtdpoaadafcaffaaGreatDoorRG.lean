import Derived.Test.YtdpoaadafcaffaaGreatDoorZ15
set_option linter.unusedVariables false
set_option maxHeartbeats 8000000
set_option maxRecDepth 100000
namespace Go.Proofs.YtdpoaadafcaffaaGreatDoor
open Proofs.Tryz
open Go.RowKit
def FH (q t:List UInt8) (ok:Bool):Prop:=(ok=true->q=J4 t)/\(ok=false->∀ l,q≠J4 l)
def Ou (q:List UInt8) (e:Ending):Prop:=∃ t ok,e=.returned (.tuple #[.string (K3 t),.bool ok])/\FH q t ok
theorem ext_list (s:ByteArray) (a b:Nat):(s.extract a b).data.toList=(s.data.toList.take b).drop a:=by
 rw [ByteArray.data_extract,Array.toList_extract,List.extract_eq_take_drop,List.drop_take]
theorem drop_at (s:ByteArray) (k:Nat) (h:k<s.size):s.data.toList.drop k=s[k]::s.data.toList.drop (k+1):=by
 rw [List.drop_eq_getElem_cons (by simpa using h)];rfl
theorem vB (q:ByteArray) (h2:2<=q.size) (hf:(q[0].toNat:Int)=34) (hl:(q[q.size - 1].toNat:Int)=34):q.data.toList=34::((q.extract 1 (q.size - 1)).data.toList++[34]):=by
 have e0:q[0]=34:=UInt8.toNat_inj.1 (by have:q[0].toNat=34:=O0;rw [this];rfl);have e1:q[q.size - 1]=34:=UInt8.toNat_inj.1 (by have:q[q.size - 1].toNat=34:=O0;rw [this];rfl);have hlen:q.data.toList.length=q.size:=U0;have t1:q.data.toList=q.data.toList.take (q.size - 1)++q.data.toList.drop (q.size - 1):=(List.take_append_drop _ _).symm;have d0:=drop_at q (q.size - 1) O0;rw [e1,List.drop_of_length_le (show q.data.toList.length<=q.size - 1+1 by omega)] at d0;have d1:=drop_at q 0 O0;rw [e0] at d1;simp only [List.drop_zero,Nat.zero_add] at d1;rw [ext_list];have t2:q.data.toList.take (q.size - 1)=34::(q.data.toList.take (q.size - 1)).drop 1:=by
  obtain ⟨m,hm⟩:∃ m,q.size - 1=m+1:=⟨q.size - 2,O0⟩;rw [hm]
  conv=>lhs;rw [d1]
  rw [d1];simp
 rw [<- List.cons_append,<- t2,<- d0];exact t1
theorem Bj {q:List UInt8} (h:q.length<2\/q.headD 0≠34\/q.getLastD 0≠34):∀ l,q≠J4 l:=by
 intro l e;subst e;rcases h with h | h | h
 · have:=Gi l;omega
 · exact h rfl
 apply h;show (34::(l.flatMap qb++[34])).getLastD 0=34;rw [<- List.cons_append,List.getLastD_concat]
theorem Qz (s:ByteArray) (k:Nat) (_:k<=s.size):s.data.toList=s.data.toList.take k++(s.extract k s.size).data.toList:=by
 rw [ext_list,List.take_of_length_le (show s.data.toList.length<=s.size by simp),List.take_append_drop]
theorem TC (q:ByteArray) (w:World) (hs:q.size<=1048700) (h2:2<=q.size) (hf:(q[0].toNat:Int)=34) (hl:(q[q.size - 1].toNat:Int)=34):
 Calls prog 135 #[.string q] w fun e w'=>Ou q.data.toList e/\Below w.heap.size w w':=by
 have HF:=Q0 (Lib.fresh_isBuilder 157 5 w);have HI:=Q0 (vB q h2 hf hl);have hz:(q.extract 1 (q.size - 1)).size<=1048700:=X3;go_enter func135,ntmps135
 go_wp2_with fail
 clear hf hl;generalize q.extract 1 (q.size - 1)=I at*;go_loopw [6] (fun i wr=>∃ (k:Nat) (t:List UInt8),k<=I.size/\i=.int .i64 k/\t.length<=k/\Hid (I.data.toList.take k=t.flatMap qb)/\Hid (Lib.IsBuilder 157 5 w.heap.size w.heap.size (Lib.byteCells t) wr)/\Below w.heap.size w wr/\w.heap.size+1<=wr.heap.size) (fun i _=>I.size - (intOf i).toNat)
 case atStart=>exact ⟨0,[],Nat.zero_le _,rfl,Nat.le_refl _,rfl,HF,bA,U0⟩
 obtain ⟨k,t,hk,rfl,htk,htl,hbl,hb,qO⟩:=hrel;by_cases hlt:k<I.size;rotate_left
 · have HU:Hid (FH q.data.toList t true):=by
    refine ⟨fun _=>?_,(fun h=>by cases h)⟩;have:=htl.out;rw [List.take_of_length_le X3] at this;rw [HI.out,this];rfl
   go_wp2_with fail
   refine (Tryz.Builder_String_any w.heap.size w.heap.size t _ hbl.out O0).mono ?_;rintro e w4 ⟨rfl,hb4⟩;go_wp2;go_ret2;exact ⟨⟨t,true,rfl,HU.out⟩,hb.trans hb4⟩
 go_wp2_with fail
 refine (c171 I[k] _).mono ?_;rintro e w1 ⟨rfl,hw1⟩;obtain rfl:=hw1.symm;cases hp:A8 I[k]
 · have HP:=Q0 hp
   clear hp
   go_wp2_with fail
   refine (c173 _ _ X3).mono ?_;rintro e w1 ⟨⟨c,ok,rfl,hun⟩,hw1⟩;obtain rfl:=hw1.symm;have HD:Hid (I.data.toList=t.flatMap qb++(I.extract k I.size).data.toList):=by rw [<- htl.out];exact Qz I k hk
   cases ok
   · have HU:Hid (FH q.data.toList [] false):=by
      refine ⟨(fun h=>by cases h),fun _ l e=>?_⟩;rw [HI.out] at e;unfold J4 at e;simp only [List.cons.injEq,true_and,List.append_cancel_right_eq] at e;rw [HD.out] at e;obtain ⟨r,hr,_⟩:=Oq e;have hne:(I.extract k I.size).data.toList=I[k]::I.data.toList.drop (k+1):=by
       rw [ext_list,List.take_of_length_le U0,drop_at I k hlt]
      cases r with
      | nil=>rw [hr] at hne;cases hne
      | cons d r=>
       rw [hr,List.flatMap_cons] at hne;cases hd:A8 d
       · exact hun.2 rfl d _ hd hr
       rw [X_ hd] at hne;simp only [List.cons_append,List.nil_append,List.cons.injEq] at hne;rw [hne.1,HP.out] at hd;cases hd
     clear hun;go_wp2;go_ret2;exact ⟨⟨[],false,rfl,HU.out⟩,hb⟩
   have HQ:=Q0 (hun.1 rfl);clear hun;have hk3:k+3<=I.size:=by
    obtain ⟨h1,r,h2⟩:=HQ.out;have:=congrArg List.length h2;rw [Ga h1] at this;simp at this;omega
   have HT:Hid (I.data.toList.take (k+3)=(t++[c]).flatMap qb):=by
    obtain ⟨h1,r,h2⟩:=HQ.out;have hl:(t.flatMap qb).length=k:=by rw [<- htl.out];simp;omega
    rw [HD.out,h2,<- List.append_assoc,List.take_append_of_le_length (by rw [List.length_append,hl,Ga h1];simp),List.take_of_length_le (by rw [List.length_append,hl,Ga h1];simp),List.flatMap_append];simp [Hid]
   go_wp2_with fail
   refine (dI w.heap.size w.heap.size (Lib.byteCells t) c.toNat _ hbl.out (by rw [Zi];omega) O0).mono ?_;rintro e w3 ⟨rfl,h3,hb3⟩;have H3:Hid (Lib.IsBuilder 157 5 w.heap.size w.heap.size (Lib.byteCells (t++[c])) w3):=by rw [J9];exact h3
   have hB3:=hb.trans hb3;have hz3:=Nat.le_trans qO hb3.size;clear h3 hb3;go_wp2;go_roundw
   case rel=>exact ⟨k+3,t++[c],hk3,by go_num,X3,HT,H3,hB3,hz3⟩
   case measure=>simp [intOf];omega
 have HT:Hid (I.data.toList.take (k+1)=(t++[I[k]]).flatMap qb):=by
  rw [o9 I k hlt,htl.out,List.flatMap_append];simp [Hid,X_ hp]
 clear hp
 go_wp2_with fail
 refine (dI w.heap.size w.heap.size (Lib.byteCells t) _ _ hbl.out (by rw [Zi];omega) O0).mono ?_;rintro e w3 ⟨rfl,h3,hb3⟩;have H3:Hid (Lib.IsBuilder 157 5 w.heap.size w.heap.size (Lib.byteCells (t++[I[k]])) w3):=by rw [J9];exact h3
 have hB3:=hb.trans hb3;have hz3:=Nat.le_trans qO hb3.size;clear h3 hb3;go_wp2;go_roundw
 case rel=>exact ⟨k+1,t++[I[k]],O0,by go_num,X3,HT,H3,hB3,hz3⟩
 case measure=>simp [intOf];omega
theorem nI (q:ByteArray) (w:World) (hs:q.size<=1048700):
 Calls prog 135 #[.string q] w fun e w'=>Ou q.data.toList e/\Below w.heap.size w w':=by
 by_cases h2:2<=q.size;rotate_left
 · have HU:Hid (Ou q.data.toList (.returned (.tuple #[.string ⟨#[]⟩,.bool false]))):=⟨[],false,rfl,(fun h=>by cases h),fun _=>Bj (.inl X3)⟩
   go_enter func135,ntmps135;go_wp2;go_ret2;exact ⟨HU.out,Below.refl _ _⟩
 have hz0:0<q.size:=O0;have hz1:q.size - 1<q.size:=O0;by_cases hf:(q[0].toNat:Int)=34
 · by_cases hl:(q[q.size - 1].toNat:Int)=34
   · exact TC q w hs h2 hf hl
   have HU:Hid (Ou q.data.toList (.returned (.tuple #[.string ⟨#[]⟩,.bool false]))):=by
    refine ⟨[],false,rfl,(fun h=>by cases h),fun _=>Bj (.inr (.inr fun e=>hl ?_))⟩;have d0:=drop_at q (q.size - 1) O0;rw [List.drop_of_length_le (show q.data.toList.length<=q.size - 1+1 by simp;omega)] at d0;have:q.data.toList=q.data.toList.take (q.size - 1)++[q[q.size - 1]]:=by rw [<- d0];exact (List.take_append_drop _ _).symm
    rw [this] at e;simp at e;rw [e];rfl
   have e1:((q[q.size - 1].toNat:Int) !=34)=true:=by simpa using hl
   clear hl;go_enter func135,ntmps135;go_wp2;go_ret2;exact ⟨HU.out,Below.refl _ _⟩
 have HU:Hid (Ou q.data.toList (.returned (.tuple #[.string ⟨#[]⟩,.bool false]))):=by
  refine ⟨[],false,rfl,(fun h=>by cases h),fun _=>Bj (.inr (.inl fun e=>hf ?_))⟩;have d1:=drop_at q 0 O0;simp only [List.drop_zero] at d1;rw [d1] at e;simp at e;rw [e];rfl
 have e1:((q[0].toNat:Int) !=34)=true:=by simpa using hf
 clear hf;go_enter func135,ntmps135;go_wp2;go_ret2;exact ⟨HU.out,Below.refl _ _⟩
def LJ (l:List UInt8) (op:Nat) (ok:Bool):Prop:=(ok=true->1<=op/\op<=11/\word op=l)/\(ok=false->∀ o:Nat,1<=o->o<=11->word o≠l)
def qF (l:List UInt8) (e:Ending):Prop:=∃ (op:Nat) (ok:Bool),e=.returned (.tuple #[.int .i64 op,.bool ok])/\LJ l op ok
theorem aJ (l:List UInt8) (w:World) (hsh:Z5 w):
 Calls prog 133 #[.string (K3 l)] w fun e w'=>qF l e/\w'=w:=by
 have JN:=Q0 hsh;clear hsh;go_enter func133,ntmps133
 go_wp2_with fail
 go_loop [4] (fun i=>∃ k:Nat,1<=k/\k<=12/\i=.int .i64 k/\Hid (∀ o:Nat,1<=o->o<k->word o≠l)) (fun i=>12 - (intOf i).toNat)
 case atStart=>exact ⟨1,O0,O0,rfl,fun o h1 h2=>O0⟩
 obtain ⟨k,hk1,hk2,rfl,hno⟩:=hrel;by_cases hlt:k<=11;rotate_left
 · have HI:Hid (qF l (.returned (.tuple #[.int .i64 0,.bool false]))):=⟨0,false,rfl,(fun h=>by cases h),fun _ o h1 h2=>hno.out o h1 O0⟩
   go_wp2;go_ret2;exact ⟨HI.out,rfl⟩
 obtain ⟨a0,_,_⟩:=JN.out k hk1 hlt;by_cases hw:word k=l
 · have HI:Hid (qF l (.returned (.tuple #[.int .i64 k,.bool true]))):=⟨k,true,rfl,fun _=>⟨hk1,hlt,hw⟩,(fun h=>by cases h)⟩
   have e1:((Na k).toList==(K3 l).toList)=true:=by rw [Q_,hw];simp
   clear hw;go_wp2;go_ret2;exact ⟨HI.out,rfl⟩
 have e1:((Na k).toList==(K3 l).toList)=false:=by
  rw [Q_,ByteArray.toList_eq,ByteArray.toList_eq];simpa [K3] using hw
 have hno':Hid (∀ o:Nat,1<=o->o<k+1->word o≠l):=fun o h1 h2=>by
  by_cases e:o=k
  · subst e;exact hw
  exact hno.out o h1 O0
 clear hw;go_wp2
 go_round
 case rel=>exact ⟨k+1,O0,O0,by go_num,hno'⟩
 case measure=>simp [intOf];omega
theorem zF (s:ByteArray) (w:World) (hs:s.size<=1048700) (hm:N8 w):
 Calls prog 91 #[.string s,.string ⟨#[32]⟩] w fun e w'=>(∃ x y,e=.returned (.tuple #[.string (K3 (U1 s.data.toList)),.string x,.bool y]))/\Below w.heap.size w w':=by
 obtain ⟨_,m,hm⟩:=hm;refine (Tryz.strings_Cut s ⟨#[32]⟩ m w O0 hm).mono ?_;rintro e w' ⟨rfl,n,rfl⟩;refine ⟨⟨⟨(Lib.cut s.data.toList [32]).2.1.toArray⟩,(Lib.cut s.data.toList [32]).2.2,?_⟩,below_drewN n⟩;have:K3 (U1 s.data.toList)=⟨(Lib.cut s.data.toList [32]).1.toArray⟩:=by rw [zz];rfl
 rw [this]
theorem Un (s:ByteArray) (n:Nat) (w:World) (hs:s.size<=1048700) (hn:1<=n) (hn2:n<=s.size+1) (hm:N8 w):
 Calls prog 134 #[.string s,.string ⟨#[32]⟩,.int .i64 n] w fun e w'=>(e=.returned (.slice (some ⟨w.heap.size,0,none⟩) (D6 s.data.toList (n - 1)).length n)/\P6 w' w.heap.size (D6 s.data.toList (n - 1)))/\Below w.heap.size w w':=by
 obtain ⟨_,m,hm⟩:=hm;refine (Tryz.strings_SplitN s ⟨#[32]⟩ n m w O0 hm J3 hn O0).mono ?_;have hmin:min n (s.size+1)=n:=O0;rw [hmin];have hd:Lib.splitB ⟨#[32]⟩ 0 (n - 1) s=(D6 s.data.toList (n - 1)).map K3:=Eo (Lib.splitB_data ⟨#[32]⟩ 0 (n - 1) s);have hlen:(D6 s.data.toList (n - 1)).length<=n:=by
  have:=Lib.splitB_length_le ⟨#[32]⟩ 0 (n - 1) s;rw [hd,List.length_map] at this;omega
 rintro e w' ⟨rfl,rfl⟩;rw [hd];refine ⟨⟨by rw [List.length_map],U0,fun i hi=>?_⟩,bA⟩;have hc:(Lib.cellsOf ((D6 s.data.toList (n - 1)).map K3) n)[i]?=some (.string (K3 ((D6 s.data.toList (n - 1)).getD i []))):=by
  unfold Lib.cellsOf;rw [List.getElem?_toArray,List.getElem?_append_left (by simpa using hi)];simp [hi]
 rw [<- hc];simp
theorem wy:∀ i:Fin 12,1<=i.val->2<=(word ((i.val:Nat):Int)).length:=J3
theorem LA (op:Nat) (h1:1<=op) (h2:op<=11):2<=(word op).length:=wy ⟨op,O0⟩ h1
def Ij (l:List UInt8) (e:Ending):Prop:=∃ (x:I3) (ok:Bool),e=.returned (.tuple #[.agg #[.int .i64 x.op,.string x.tx,.int .i64 x.to],.bool ok])/\ah l x ok
theorem rz {w u:World} (hb:Below (w.heap.size+1) (w.alloc (.cells #[.int .i64 0,.string ⟨#[]⟩,.int .i64 0] 121)) u):
 (u.cell? ⟨w.heap.size,0,none⟩=some (.int .i64 0)/\u.cell? ⟨w.heap.size,1,none⟩=some (.string ⟨#[]⟩)/\u.cell? ⟨w.heap.size,2,none⟩=some (.int .i64 0))/\u.frozen? ⟨w.heap.size,0,none⟩=false/\u.frozen? ⟨w.heap.size,1,none⟩=false/\u.frozen? ⟨w.heap.size,2,none⟩=false:=by
 have c:∀ j,u.cell? ⟨w.heap.size,j,none⟩=(w.alloc (.cells #[.int .i64 0,.string ⟨#[]⟩,.int .i64 0] 121)).cell? ⟨w.heap.size,j,none⟩:=fun j=>hb.cell U0;have f:∀ j,u.frozen? ⟨w.heap.size,j,none⟩=(w.alloc (.cells #[.int .i64 0,.string ⟨#[]⟩,.int .i64 0] 121)).frozen? ⟨w.heap.size,j,none⟩:=fun j=>hb.frozen U0;rw [c,c,c,f,f,f];simp
theorem Me {w:World} {p q:Addr} {x:Value} (hne:q.block≠p.block) (h:w.cell? p=some x) (v:Value):(w.setCell q v).cell? p=some x:=by
 rw [World.cell?_setCell_other _ _ _ _ (fun e=>hne (by rw [e]))];exact h
theorem UH (l:List UInt8) (w:World) (hs:l.length<=1048700):Calls prog 93 #[.string (K3 l),.int .i64 40] w fun e w'=>e=.returned (.tuple #[.int .i64 (Ud l),.bool (Q7 l)])/\w'=w:=c93 (K3 l) w (by rw [Y2];exact hs)
theorem fw (l:List UInt8) (w:World) (hs:l.length<=1048700):Calls prog 135 #[.string (K3 l)] w fun e w'=>Ou l e/\Below w.heap.size w w':=nI (K3 l) w (by rw [Y2];exact hs)
theorem pK (s:ByteArray) (w:World) (hs:s.size<=300) (hsh:Z5 w) (hmx:N8 w):
 Calls prog 92 #[.string s] w fun e w'=>Ij s.data.toList e/\Below w.heap.size w w':=by
 have JN:=Q0 hsh;have sP:=Q0 hmx;clear hsh hmx;have hlen:s.data.toList.length=s.size:=U0;have hB0:Below w.heap.size w (w.alloc (.cells #[.int .i64 0,.string ⟨#[]⟩,.int .i64 0] 121)):=bA;go_enter func92,ntmps92
 go_wp2_with fail
 refine (zF s _ O0 (P8 sP.out hB0)).mono ?_;rintro e w1 ⟨⟨cx,cy,rfl⟩,hb1⟩;have hx1:Below (w.heap.size+1) (w.alloc (.cells #[.int .i64 0,.string ⟨#[]⟩,.int .i64 0] 121)) w1:=by simpa using hb1
 have hB1:=hB0.trans (hx1.mono O0);clear hb1
 go_wp2_with fail
 refine (aJ _ _ (F7 JN.out hB1)).mono ?_;rintro e w2 ⟨⟨op,ok,rfl,hop⟩,hw2⟩;obtain rfl:=hw2.symm;cases ok
 · have HI:Hid (Ij s.data.toList (.returned (.tuple #[.agg #[.int .i64 0,.string ⟨#[]⟩,.int .i64 0],.bool false]))):=⟨⟨0,⟨#[]⟩,0⟩,false,rfl,Db _ _ (Yn (hop.2 rfl))⟩
   clear hop;obtain ⟨⟨z0,z1,z2⟩,y0,y1,y2⟩:=rz hx1;go_wp2;refine bodyPost_ret (v:=.tuple #[.agg #[.int .i64 0,.string ⟨#[]⟩,.int .i64 0],.bool false]) (by simp [results,Tryz.results92,go_sem,z0,z1,z2]) rfl ⟨HI.out,((hB1.setCell U0 _).setCell U0 _).setCell U0 _⟩
 obtain ⟨ho1,ho2,how⟩:=hop.1 rfl;clear hop;obtain ⟨a0,b0,c0⟩:=F7 JN.out hB1 op ho1 ho2;have hsz2:2<=s.size:=by
  have h1:=LA op ho1 ho2;rw [how] at h1;have h2:(U1 s.data.toList).length<=s.data.toList.length:=(List.takeWhile_sublist _).length_le;omega
 have hA3:∀ o,Below (w.heap.size+1) (w.alloc (.cells #[.int .i64 0,.string ⟨#[]⟩,.int .i64 0] 121)) (w1.alloc o):=fun o=>hx1.alloc (by have:=hx1.size;simp at this;omega) _;have hz1:w.heap.size+1<=w1.heap.size:=by have:=hx1.size;simp at this;omega
 cases hO:Y6 op <;> cases hX:N7 op
 · have HB:=Vw ho1 ho2 how hO hX
   rw [hO] at b0;rw [hX] at c0
   go_wp2_with fail
   refine (Un s 1 _ O0 O0 O0 (P8 sP.out (hB1.alloc hB1.size _))).mono ?_;rintro e w4 ⟨⟨rfl,hln⟩,hb4⟩;have hx4:=(hA3 (.cells #[.string (Na op),.bool false,.bool false] 207)).trans (hb4.mono X3);have hB4:=hB0.trans (hx4.mono O0);have zN:w1.heap.size+2<=w4.heap.size:=by have:=hln.1;simp at this;omega
   have s1:w4.cell? ⟨w1.heap.size,1,none⟩=some (.bool false):=(hb4.cell (p:=⟨w1.heap.size,1,none⟩) U0).trans (by simp [go_sem]);have s2:w4.cell? ⟨w1.heap.size,2,none⟩=some (.bool false):=(hb4.cell (p:=⟨w1.heap.size,2,none⟩) U0).trans (by simp [go_sem]);have s1':=past (by show w1.heap.size<w4.heap.size;omega) s1;have s2':=past (by show w1.heap.size<w4.heap.size;omega) s2;obtain ⟨⟨z0,z1,z2⟩,y0,y1,y2⟩:=rz hx4;have FL:w.heap.size<w4.heap.size:=O0;have nS:=past (by exact FL) z0;have z1':=past (by exact FL) z1;have z2':=past (by exact FL) z2;have y0':=Ya (by exact FL) y0;have y1':=Ya (by exact FL) y1;have y2':=Ya (by exact FL) y2;have JM:Hid (P6 w4 (w1.heap.size+1) (D6 s.data.toList (1 - 1))):=by have h:=hln;simp at h;exact h
   clear hln hb4;have p0:w4.cell? ⟨w1.heap.size+1,0,none⟩=some (.string (K3 s.data.toList)):=by have:=JM.out.2 0 (by simp [Jb]);simpa [Jb] using this
   have hpl:(D6 s.data.toList (1 - 1)).length=1:=rfl;rw [hpl];by_cases hw:s.data.toList=U1 s.data.toList
   · have HI:Hid (Ij s.data.toList (.returned (.tuple #[.agg #[.int .i64 op,.string ⟨#[]⟩,.int .i64 0],.bool true]))):=⟨⟨op,⟨#[]⟩,0⟩,true,rfl,HB.1 hw⟩
     have e1:((K3 s.data.toList).toList==(K3 (U1 s.data.toList)).toList)=true:=by rw [<- hw];simp
     clear hw HB hO hX;go_wp2;have F:=ja w4 w.heap.size 0 (.int .i64 op) (.string ⟨#[]⟩) (.int .i64 0) _ _ _ z0 z1 z2;simp only [Nat.zero_add] at F;have G0:=past (p:=⟨w.heap.size,0,none⟩) (by simpa using FL) F.1;have G1:=past (p:=⟨w.heap.size,1,none⟩) (by simpa using FL) F.2.1;have G2:=past (p:=⟨w.heap.size,2,none⟩) (by simpa using FL) F.2.2;refine bodyPost_ret (v:=.tuple #[.agg #[.int .i64 op,.string ⟨#[]⟩,.int .i64 0],.bool true]) (by simp [results,Tryz.results92,go_sem,G0,G1,G2]) rfl ⟨HI.out,(((hB4.setCell U0 _).setCell U0 _).setCell U0 _).alloc (by simpa using hB4.size) _⟩
   have HI:Hid (Ij s.data.toList (.returned (.tuple #[.agg #[.int .i64 0,.string ⟨#[]⟩,.int .i64 0],.bool false]))):=⟨⟨0,⟨#[]⟩,0⟩,false,rfl,Db _ _ (HB.2 hw)⟩;have e1:((K3 s.data.toList).toList==(K3 (U1 s.data.toList)).toList)=false:=by
    rw [ByteArray.toList_eq,ByteArray.toList_eq];simpa [K3] using hw
   clear hw HB hO hX;go_wp2;refine bodyPost_ret (v:=.tuple #[.agg #[.int .i64 0,.string ⟨#[]⟩,.int .i64 0],.bool false]) (by simp [results,Tryz.results92,go_sem,z0,z1,z2]) rfl ⟨HI.out,((hB4.setCell U0 _).setCell U0 _).setCell U0 _⟩
 · have IM:=Xw ho1 ho2 how hO hX
   have lN:=Im ho1 ho2 how (.inr hX);rw [hO] at b0;rw [hX] at c0
   go_wp2_with fail
   refine (Un s 2 _ O0 O0 O0 (P8 sP.out (hB1.alloc hB1.size _))).mono ?_;rintro e w4 ⟨⟨rfl,hln⟩,hb4⟩;have hx4:=(hA3 (.cells #[.string (Na op),.bool false,.bool true] 207)).trans (hb4.mono X3);have hB4:=hB0.trans (hx4.mono O0);have zN:w1.heap.size+2<=w4.heap.size:=by have:=hln.1;simp at this;omega
   have s1:w4.cell? ⟨w1.heap.size,1,none⟩=some (.bool false):=(hb4.cell (p:=⟨w1.heap.size,1,none⟩) U0).trans (by simp [go_sem]);have s2:w4.cell? ⟨w1.heap.size,2,none⟩=some (.bool true):=(hb4.cell (p:=⟨w1.heap.size,2,none⟩) U0).trans (by simp [go_sem]);have s1':=past (by show w1.heap.size<w4.heap.size;omega) s1;have s2':=past (by show w1.heap.size<w4.heap.size;omega) s2;obtain ⟨⟨z0,z1,z2⟩,y0,y1,y2⟩:=rz hx4;have FL:w.heap.size<w4.heap.size:=O0;have nS:=past (by exact FL) z0;have z1':=past (by exact FL) z1;have z2':=past (by exact FL) z2;have y0':=Ya (by exact FL) y0;have y1':=Ya (by exact FL) y1;have y2':=Ya (by exact FL) y2;have JM:Hid (P6 w4 (w1.heap.size+1) (D6 s.data.toList (2 - 1))):=by have h:=hln;simp at h;exact h
   clear hln hb4;by_cases hm:(32:UInt8)∈s.data.toList;rotate_left
   · have hpp:D6 s.data.toList (2 - 1)=[s.data.toList]:=j_ _ hm
     rw [hpp];have hpl:([s.data.toList]:List (List UInt8)).length=1:=rfl;rw [hpl];have HI:Hid (Ij s.data.toList (.returned (.tuple #[.agg #[.int .i64 0,.string ⟨#[]⟩,.int .i64 0],.bool false]))):=⟨⟨0,⟨#[]⟩,0⟩,false,rfl,Db _ _ (lN hm)⟩;clear IM lN hO hX hm;go_wp2;refine bodyPost_ret (v:=.tuple #[.agg #[.int .i64 0,.string ⟨#[]⟩,.int .i64 0],.bool false]) (by simp [results,Tryz.results92,go_sem,z0,z1,z2]) rfl ⟨HI.out,((hB4.setCell U0 _).setCell U0 _).setCell U0 _⟩
   have hpp:D6 s.data.toList (2 - 1)=[U1 s.data.toList,Z0 s.data.toList]:=by show D6 s.data.toList (0+1)=_;rw [o_ 0 hm,Jb]
   rw [hpp] at JM ⊢;have p0:w4.cell? ⟨w1.heap.size+1,0,none⟩=some (.string (K3 (U1 s.data.toList))):=JM.out.2 0 U0;have p1:w4.cell? ⟨w1.heap.size+1,1,none⟩=some (.string (K3 (Z0 s.data.toList))):=JM.out.2 1 U0;have p1':=past (by show w1.heap.size+1<w4.heap.size;omega) p1;have hpl:([U1 s.data.toList,Z0 s.data.toList]:List (List UInt8)).length=2:=rfl;rw [hpl];have HY:Hid (∀ t ok,FH (Z0 s.data.toList) t ok->ah s.data.toList ⟨op,K3 t,0⟩ ok):=fun t ok hu=>IM hm O0 hu;have hrz:(K3 (Z0 s.data.toList)).size<=300:=by
    rw [Y2];have:=congrArg List.length (Y8 hm).1;rw [List.length_append,List.length_cons] at this;omega
   clear IM lN hO hX hm
   go_wp2_with fail
   refine (fw _ _ (by rw [Y2] at hrz;omega)).mono ?_;rintro e w6 ⟨⟨t,ok,rfl,hun⟩,a0j⟩;have hb6:Below (w4.heap.size+1) (w4.alloc (.cells #[.int .i64 op,.string ⟨#[]⟩,.int .i64 0] 121)) w6:=by have h:=a0j;simp at h;exact h
   clear a0j;have XM:∀ p:Addr,p.block<w4.heap.size->w6.cell? p=w4.cell? p:=fun p hp=>(hb6.cell O0).trans (((Below.refl w4.heap.size w4).alloc Q8 _).cell hp);have f6:∀ p:Addr,p.block<w4.heap.size->w6.frozen? p=w4.frozen? p:=fun p hp=>(hb6.frozen O0).trans (((Below.refl w4.heap.size w4).alloc Q8 _).frozen hp);have t1:=(XM _ (by show w1.heap.size<w4.heap.size;omega)).trans s1;have t2:=(XM _ (by show w1.heap.size<w4.heap.size;omega)).trans s2;have x0:=(XM _ FL).trans z0;have x1:=(XM _ FL).trans z1;have x2:=(XM _ FL).trans z2;have v0:=(f6 _ FL).trans y0;have v1:=(f6 _ FL).trans y1;have v2:=(f6 _ FL).trans y2;have i0:w6.cell? ⟨w4.heap.size,0,none⟩=some (.int .i64 op):=(hb6.cell (p:=⟨w4.heap.size,0,none⟩) U0).trans (by simp [go_sem]);have i1:w6.cell? ⟨w4.heap.size,1,none⟩=some (.string ⟨#[]⟩):=(hb6.cell (p:=⟨w4.heap.size,1,none⟩) U0).trans (by simp [go_sem]);have i2:w6.cell? ⟨w4.heap.size,2,none⟩=some (.int .i64 0):=(hb6.cell (p:=⟨w4.heap.size,2,none⟩) U0).trans (by simp [go_sem]);have j0:∀ k,w6.frozen? ⟨w4.heap.size,k,none⟩=false:=fun k=>(hb6.frozen (p:=⟨w4.heap.size,k,none⟩) U0).trans (by simp [go_sem]);have j1:=j0 1;have j2:=j0 2;have u1:=(XM ⟨w1.heap.size+1,1,none⟩ (by show w1.heap.size+1<w4.heap.size;omega)).trans p1;have bX:=(hB4.alloc hB4.size _).trans (hb6.mono O0);have FO:w4.heap.size+1<=w6.heap.size:=by have:=hb6.size;simp at this;omega
   clear s1' s2' nS z1' z2' y0' y1' y2' s1 s2 z0 z1 z2 y0 y1 y2 XM f6 hb6 j0;have hq1:w4.heap.size≠w1.heap.size:=O0;have hq2:w4.heap.size≠w.heap.size:=O0;have k1:=Me (q:=⟨w4.heap.size,1,none⟩) (by exact hq1) t1 (.string (K3 t));have k2:=Me (q:=⟨w4.heap.size,1,none⟩) (by exact hq1) t2 (.string (K3 t));have m0:=Me (q:=⟨w4.heap.size,1,none⟩) (by exact hq2) x0 (.string (K3 t));have m1:=Me (q:=⟨w4.heap.size,1,none⟩) (by exact hq2) x1 (.string (K3 t));have m2:=Me (q:=⟨w4.heap.size,1,none⟩) (by exact hq2) x2 (.string (K3 t));have HI:Hid (Ij s.data.toList (.returned (.tuple #[.agg #[.int .i64 op,.string (K3 t),.int .i64 0],.bool ok]))):=⟨⟨op,(K3 t),0⟩,ok,rfl,HY.out t ok hun⟩;clear hun;go_wp2;have F:=ja (w6.setCell ⟨w4.heap.size,1,none⟩ (.string (K3 t))) w.heap.size 0 (.int .i64 op) (.string (K3 t)) (.int .i64 0) _ _ _ m0 m1 m2;simp only [Nat.zero_add] at F;refine bodyPost_ret (v:=.tuple #[.agg #[.int .i64 op,.string (K3 t),.int .i64 0],.bool ok]) (by simp [results,Tryz.results92,go_sem,F]) rfl ⟨HI.out,((((bX.setCell X3 _).setCell U0 _).setCell U0 _).setCell U0 _)⟩
 · have IM:=Zx ho1 ho2 how hO hX
   have lN:=Im ho1 ho2 how (.inl hO);rw [hO] at b0;rw [hX] at c0
   go_wp2_with fail
   refine (Un s 2 _ O0 O0 O0 (P8 sP.out (hB1.alloc hB1.size _))).mono ?_;rintro e w4 ⟨⟨rfl,hln⟩,hb4⟩;have hx4:=(hA3 (.cells #[.string (Na op),.bool true,.bool false] 207)).trans (hb4.mono X3);have hB4:=hB0.trans (hx4.mono O0);have zN:w1.heap.size+2<=w4.heap.size:=by have:=hln.1;simp at this;omega
   have s1:w4.cell? ⟨w1.heap.size,1,none⟩=some (.bool true):=(hb4.cell (p:=⟨w1.heap.size,1,none⟩) U0).trans (by simp [go_sem]);have s2:w4.cell? ⟨w1.heap.size,2,none⟩=some (.bool false):=(hb4.cell (p:=⟨w1.heap.size,2,none⟩) U0).trans (by simp [go_sem]);have s1':=past (by show w1.heap.size<w4.heap.size;omega) s1;have s2':=past (by show w1.heap.size<w4.heap.size;omega) s2;obtain ⟨⟨z0,z1,z2⟩,y0,y1,y2⟩:=rz hx4;have FL:w.heap.size<w4.heap.size:=O0;have nS:=past (by exact FL) z0;have z1':=past (by exact FL) z1;have z2':=past (by exact FL) z2;have y0':=Ya (by exact FL) y0;have y1':=Ya (by exact FL) y1;have y2':=Ya (by exact FL) y2;have JM:Hid (P6 w4 (w1.heap.size+1) (D6 s.data.toList (2 - 1))):=by have h:=hln;simp at h;exact h
   clear hln hb4;by_cases hm:(32:UInt8)∈s.data.toList;rotate_left
   · have hpp:D6 s.data.toList (2 - 1)=[s.data.toList]:=j_ _ hm
     rw [hpp];have hpl:([s.data.toList]:List (List UInt8)).length=1:=rfl;rw [hpl];have HI:Hid (Ij s.data.toList (.returned (.tuple #[.agg #[.int .i64 0,.string ⟨#[]⟩,.int .i64 0],.bool false]))):=⟨⟨0,⟨#[]⟩,0⟩,false,rfl,Db _ _ (lN hm)⟩;clear IM lN hO hX hm;go_wp2;refine bodyPost_ret (v:=.tuple #[.agg #[.int .i64 0,.string ⟨#[]⟩,.int .i64 0],.bool false]) (by simp [results,Tryz.results92,go_sem,z0,z1,z2]) rfl ⟨HI.out,((hB4.setCell U0 _).setCell U0 _).setCell U0 _⟩
   have hpp:D6 s.data.toList (2 - 1)=[U1 s.data.toList,Z0 s.data.toList]:=by show D6 s.data.toList (0+1)=_;rw [o_ 0 hm,Jb]
   rw [hpp] at JM ⊢;have p0:w4.cell? ⟨w1.heap.size+1,0,none⟩=some (.string (K3 (U1 s.data.toList))):=JM.out.2 0 U0;have p1:w4.cell? ⟨w1.heap.size+1,1,none⟩=some (.string (K3 (Z0 s.data.toList))):=JM.out.2 1 U0;have p1':=past (by show w1.heap.size+1<w4.heap.size;omega) p1;have hpl:([U1 s.data.toList,Z0 s.data.toList]:List (List UInt8)).length=2:=rfl;rw [hpl];have HI:Hid (Ij s.data.toList (.returned (.tuple #[.agg #[.int .i64 op,.string ⟨#[]⟩,.int .i64 (Ud (Z0 s.data.toList))],.bool (Q7 (Z0 s.data.toList))]))):=⟨⟨op,⟨#[]⟩,(Ud (Z0 s.data.toList))⟩,(Q7 (Z0 s.data.toList)),rfl,IM hm⟩;have hrz:(K3 (Z0 s.data.toList)).size<=300:=by
    rw [Y2];have:=congrArg List.length (Y8 hm).1;rw [List.length_append,List.length_cons] at this;omega
   clear IM lN hO hX hm
   go_wp2_with fail
   refine (UH _ _ (by rw [Y2] at hrz;omega)).mono ?_;rintro e w6 ⟨rfl,XP⟩;have hb6:Below (w4.heap.size+1) (w4.alloc (.cells #[.int .i64 op,.string ⟨#[]⟩,.int .i64 0] 121)) w6:=by rw [XP];exact Below.refl _ _
   clear XP;have XM:∀ p:Addr,p.block<w4.heap.size->w6.cell? p=w4.cell? p:=fun p hp=>(hb6.cell O0).trans (((Below.refl w4.heap.size w4).alloc Q8 _).cell hp);have f6:∀ p:Addr,p.block<w4.heap.size->w6.frozen? p=w4.frozen? p:=fun p hp=>(hb6.frozen O0).trans (((Below.refl w4.heap.size w4).alloc Q8 _).frozen hp);have t1:=(XM _ (by show w1.heap.size<w4.heap.size;omega)).trans s1;have t2:=(XM _ (by show w1.heap.size<w4.heap.size;omega)).trans s2;have x0:=(XM _ FL).trans z0;have x1:=(XM _ FL).trans z1;have x2:=(XM _ FL).trans z2;have v0:=(f6 _ FL).trans y0;have v1:=(f6 _ FL).trans y1;have v2:=(f6 _ FL).trans y2;have i0:w6.cell? ⟨w4.heap.size,0,none⟩=some (.int .i64 op):=(hb6.cell (p:=⟨w4.heap.size,0,none⟩) U0).trans (by simp [go_sem]);have i1:w6.cell? ⟨w4.heap.size,1,none⟩=some (.string ⟨#[]⟩):=(hb6.cell (p:=⟨w4.heap.size,1,none⟩) U0).trans (by simp [go_sem]);have i2:w6.cell? ⟨w4.heap.size,2,none⟩=some (.int .i64 0):=(hb6.cell (p:=⟨w4.heap.size,2,none⟩) U0).trans (by simp [go_sem]);have j0:∀ k,w6.frozen? ⟨w4.heap.size,k,none⟩=false:=fun k=>(hb6.frozen (p:=⟨w4.heap.size,k,none⟩) U0).trans (by simp [go_sem]);have j1:=j0 1;have j2:=j0 2;have u1:=(XM ⟨w1.heap.size+1,1,none⟩ (by show w1.heap.size+1<w4.heap.size;omega)).trans p1;have bX:=(hB4.alloc hB4.size _).trans (hb6.mono O0);have FO:w4.heap.size+1<=w6.heap.size:=by have:=hb6.size;simp at this;omega
   clear s1' s2' nS z1' z2' y0' y1' y2' s1 s2 z0 z1 z2 y0 y1 y2 XM f6 hb6 j0;generalize Ud (Z0 s.data.toList)=N at*;generalize Q7 (Z0 s.data.toList)=ok at*;have hq1:w4.heap.size≠w1.heap.size:=O0;have hq2:w4.heap.size≠w.heap.size:=O0;have k1:=Me (q:=⟨w4.heap.size,2,none⟩) (by exact hq1) t1 (.int .i64 N);have k2:=Me (q:=⟨w4.heap.size,2,none⟩) (by exact hq1) t2 (.int .i64 N);have m0:=Me (q:=⟨w4.heap.size,2,none⟩) (by exact hq2) x0 (.int .i64 N);have m1:=Me (q:=⟨w4.heap.size,2,none⟩) (by exact hq2) x1 (.int .i64 N);have m2:=Me (q:=⟨w4.heap.size,2,none⟩) (by exact hq2) x2 (.int .i64 N);cases ok
   all_goals
    go_wp2
   · have F:=ja (w6.setCell ⟨w4.heap.size,2,none⟩ (.int .i64 N)) w.heap.size 0 (.int .i64 op) (.string ⟨#[]⟩) (.int .i64 N) _ _ _ m0 m1 m2
     simp only [Nat.zero_add] at F;refine bodyPost_ret (v:=.tuple #[.agg #[.int .i64 op,.string ⟨#[]⟩,.int .i64 N],.bool false]) (by simp [results,Tryz.results92,go_sem,F]) rfl ⟨HI.out,((((bX.setCell X3 _).setCell U0 _).setCell U0 _).setCell U0 _)⟩
   have F:=ja (w6.setCell ⟨w4.heap.size,2,none⟩ (.int .i64 N)) w.heap.size 0 (.int .i64 op) (.string ⟨#[]⟩) (.int .i64 N) _ _ _ m0 m1 m2;simp only [Nat.zero_add] at F;refine bodyPost_ret (v:=.tuple #[.agg #[.int .i64 op,.string ⟨#[]⟩,.int .i64 N],.bool true]) (by simp [results,Tryz.results92,go_sem,F]) rfl ⟨HI.out,((((bX.setCell X3 _).setCell U0 _).setCell U0 _).setCell U0 _)⟩
 have IM:=fun (hm:(32:UInt8)∈s.data.toList) (hm2:(32:UInt8)∈Z0 s.data.toList) (hn:Q7 (U1 (Z0 s.data.toList))=true) (t:List UInt8) (ok:Bool) (hu:FH (Z0 (Z0 s.data.toList)) t ok)=>Ey ho1 ho2 how hO hX hm hm2 O0 hn hu;have lN:=Im ho1 ho2 how (.inl hO);have HBM:=ry ho1 ho2 how hO hX;have HBQ:=Qx ho1 ho2 how hO hX;rw [hO] at b0;rw [hX] at c0
 go_wp2_with fail
 refine (Un s 3 _ O0 O0 O0 (P8 sP.out (hB1.alloc hB1.size _))).mono ?_;rintro e w4 ⟨⟨rfl,hln⟩,hb4⟩;have hx4:=(hA3 (.cells #[.string (Na op),.bool true,.bool true] 207)).trans (hb4.mono X3);have hB4:=hB0.trans (hx4.mono O0);have zN:w1.heap.size+2<=w4.heap.size:=by have:=hln.1;simp at this;omega
 have s1:w4.cell? ⟨w1.heap.size,1,none⟩=some (.bool true):=(hb4.cell (p:=⟨w1.heap.size,1,none⟩) U0).trans (by simp [go_sem]);have s2:w4.cell? ⟨w1.heap.size,2,none⟩=some (.bool true):=(hb4.cell (p:=⟨w1.heap.size,2,none⟩) U0).trans (by simp [go_sem]);have s1':=past (by show w1.heap.size<w4.heap.size;omega) s1;have s2':=past (by show w1.heap.size<w4.heap.size;omega) s2;obtain ⟨⟨z0,z1,z2⟩,y0,y1,y2⟩:=rz hx4;have FL:w.heap.size<w4.heap.size:=O0;have nS:=past (by exact FL) z0;have z1':=past (by exact FL) z1;have z2':=past (by exact FL) z2;have y0':=Ya (by exact FL) y0;have y1':=Ya (by exact FL) y1;have y2':=Ya (by exact FL) y2;have JM:Hid (P6 w4 (w1.heap.size+1) (D6 s.data.toList (3 - 1))):=by have h:=hln;simp at h;exact h
 clear hln hb4;by_cases hm:(32:UInt8)∈s.data.toList;rotate_left
 · have hpp:D6 s.data.toList (3 - 1)=[s.data.toList]:=j_ _ hm
   rw [hpp];have hpl:([s.data.toList]:List (List UInt8)).length=1:=rfl;rw [hpl];have HI:Hid (Ij s.data.toList (.returned (.tuple #[.agg #[.int .i64 0,.string ⟨#[]⟩,.int .i64 0],.bool false]))):=⟨⟨0,⟨#[]⟩,0⟩,false,rfl,Db _ _ (lN hm)⟩;clear IM lN HBM HBQ hO hX hm;go_wp2;refine bodyPost_ret (v:=.tuple #[.agg #[.int .i64 0,.string ⟨#[]⟩,.int .i64 0],.bool false]) (by simp [results,Tryz.results92,go_sem,z0,z1,z2]) rfl ⟨HI.out,((hB4.setCell U0 _).setCell U0 _).setCell U0 _⟩
 by_cases hm2:(32:UInt8)∈Z0 s.data.toList;rotate_left
 · have hpp:D6 s.data.toList (3 - 1)=[U1 s.data.toList,Z0 s.data.toList]:=by show D6 s.data.toList (1+1)=_;rw [o_ 1 hm,j_ 1 hm2]
   rw [hpp];have hpl:([U1 s.data.toList,Z0 s.data.toList]:List (List UInt8)).length=2:=rfl;rw [hpl];have HI:Hid (Ij s.data.toList (.returned (.tuple #[.agg #[.int .i64 0,.string ⟨#[]⟩,.int .i64 0],.bool false]))):=⟨⟨0,⟨#[]⟩,0⟩,false,rfl,Db _ _ (HBM hm2)⟩;clear IM lN HBM HBQ hO hX hm hm2;go_wp2;refine bodyPost_ret (v:=.tuple #[.agg #[.int .i64 0,.string ⟨#[]⟩,.int .i64 0],.bool false]) (by simp [results,Tryz.results92,go_sem,z0,z1,z2]) rfl ⟨HI.out,((hB4.setCell U0 _).setCell U0 _).setCell U0 _⟩
 have hpp:D6 s.data.toList (3 - 1)=[U1 s.data.toList,U1 (Z0 s.data.toList),Z0 (Z0 s.data.toList)]:=by show D6 s.data.toList (1+1)=_;rw [o_ 1 hm,o_ 0 hm2,Jb]
 rw [hpp] at JM ⊢;have p0:w4.cell? ⟨w1.heap.size+1,0,none⟩=some (.string (K3 (U1 s.data.toList))):=JM.out.2 0 U0;have p1:w4.cell? ⟨w1.heap.size+1,1,none⟩=some (.string (K3 (U1 (Z0 s.data.toList)))):=JM.out.2 1 U0;have p2:w4.cell? ⟨w1.heap.size+1,2,none⟩=some (.string (K3 (Z0 (Z0 s.data.toList)))):=JM.out.2 2 U0;have p1':=past (by show w1.heap.size+1<w4.heap.size;omega) p1;have hpl:([U1 s.data.toList,U1 (Z0 s.data.toList),Z0 (Z0 s.data.toList)]:List (List UInt8)).length=3:=rfl;rw [hpl];have hr1:(U1 (Z0 s.data.toList)).length<=300/\(Z0 (Z0 s.data.toList)).length<=300:=by
  have h1:=congrArg List.length (Y8 hm).1;have h2:=congrArg List.length (Y8 hm2).1;rw [List.length_append,List.length_cons] at h1 h2;omega
 have HY:=IM hm hm2;clear IM lN HBM hO hX hm hm2;generalize hR1:U1 (Z0 s.data.toList)=r1 at*;generalize Z0 (Z0 s.data.toList)=r2 at*
 go_wp2_with fail
 refine (UH r1 _ O0).mono ?_;rintro e w6 ⟨rfl,XP⟩;have hb6:Below (w4.heap.size+1) (w4.alloc (.cells #[.int .i64 op,.string ⟨#[]⟩,.int .i64 0] 121)) w6:=by rw [XP];exact Below.refl _ _
 clear XP;have XM:∀ p:Addr,p.block<w4.heap.size->w6.cell? p=w4.cell? p:=fun p hp=>(hb6.cell O0).trans (((Below.refl w4.heap.size w4).alloc Q8 _).cell hp);have f6:∀ p:Addr,p.block<w4.heap.size->w6.frozen? p=w4.frozen? p:=fun p hp=>(hb6.frozen O0).trans (((Below.refl w4.heap.size w4).alloc Q8 _).frozen hp);have t1:=(XM _ (by show w1.heap.size<w4.heap.size;omega)).trans s1;have t2:=(XM _ (by show w1.heap.size<w4.heap.size;omega)).trans s2;have x0:=(XM _ FL).trans z0;have x1:=(XM _ FL).trans z1;have x2:=(XM _ FL).trans z2;have v0:=(f6 _ FL).trans y0;have v1:=(f6 _ FL).trans y1;have v2:=(f6 _ FL).trans y2;have i0:w6.cell? ⟨w4.heap.size,0,none⟩=some (.int .i64 op):=(hb6.cell (p:=⟨w4.heap.size,0,none⟩) U0).trans (by simp [go_sem]);have i1:w6.cell? ⟨w4.heap.size,1,none⟩=some (.string ⟨#[]⟩):=(hb6.cell (p:=⟨w4.heap.size,1,none⟩) U0).trans (by simp [go_sem]);have i2:w6.cell? ⟨w4.heap.size,2,none⟩=some (.int .i64 0):=(hb6.cell (p:=⟨w4.heap.size,2,none⟩) U0).trans (by simp [go_sem]);have j0:∀ k,w6.frozen? ⟨w4.heap.size,k,none⟩=false:=fun k=>(hb6.frozen (p:=⟨w4.heap.size,k,none⟩) U0).trans (by simp [go_sem]);have j1:=j0 1;have j2:=j0 2;have u1:=(XM ⟨w1.heap.size+1,1,none⟩ (by show w1.heap.size+1<w4.heap.size;omega)).trans p1;have u2:=(XM ⟨w1.heap.size+1,2,none⟩ (by show w1.heap.size+1<w4.heap.size;omega)).trans p2;have bX:=(hB4.alloc hB4.size _).trans (hb6.mono O0);have FO:w4.heap.size+1<=w6.heap.size:=by have:=hb6.size;simp at this;omega
 clear s1' s2' nS z1' z2' y0' y1' y2' s1 s2 z0 z1 z2 y0 y1 y2 XM f6 hb6 j0;have hq1:w4.heap.size≠w1.heap.size:=O0;have hq2:w4.heap.size≠w.heap.size:=O0;have k1:=Me (q:=⟨w4.heap.size,2,none⟩) (by exact hq1) t1 (.int .i64 (Ud r1));have k2:=Me (q:=⟨w4.heap.size,2,none⟩) (by exact hq1) t2 (.int .i64 (Ud r1));have m0:=Me (q:=⟨w4.heap.size,2,none⟩) (by exact hq2) x0 (.int .i64 (Ud r1));have m1:=Me (q:=⟨w4.heap.size,2,none⟩) (by exact hq2) x1 (.int .i64 (Ud r1));have m2:=Me (q:=⟨w4.heap.size,2,none⟩) (by exact hq2) x2 (.int .i64 (Ud r1));have n2:=Me (q:=⟨w4.heap.size,2,none⟩) (p:=⟨w1.heap.size+1,2,none⟩) (by show w4.heap.size≠w1.heap.size+1;omega) u2 (.int .i64 (Ud r1));cases hn:Q7 r1
 · have HI:Hid (Ij s.data.toList (.returned (.tuple #[.agg #[.int .i64 op,.string ⟨#[]⟩,.int .i64 (Ud r1)],.bool false]))):=⟨⟨op,⟨#[]⟩,(Ud r1)⟩,false,rfl,Db _ _ (HBQ hn)⟩
   clear HY HBQ hn;generalize Ud r1=N at*;go_wp2;have F:=ja (w6.setCell ⟨w4.heap.size,2,none⟩ (.int .i64 N)) w.heap.size 0 (.int .i64 op) (.string ⟨#[]⟩) (.int .i64 N) _ _ _ m0 m1 m2;simp only [Nat.zero_add] at F;refine bodyPost_ret (v:=.tuple #[.agg #[.int .i64 op,.string ⟨#[]⟩,.int .i64 N],.bool false]) (by simp [results,Tryz.results92,go_sem,F]) rfl ⟨HI.out,((((bX.setCell X3 _).setCell U0 _).setCell U0 _).setCell U0 _)⟩
 have HY2:=Q0 (HY hn);clear HY HBQ hn;generalize Ud r1=N at*
 go_wp2_with fail
 refine (fw r2 _ O0).mono ?_;rintro e w7 ⟨⟨t,ok,rfl,hun⟩,a0k⟩;have MN:Below w6.heap.size (w6.setCell ⟨w4.heap.size,2,none⟩ (.int .i64 N)) w7:=by have h:=a0k;simp at h;exact h
 have HI:Hid (Ij s.data.toList (.returned (.tuple #[.agg #[.int .i64 op,.string (K3 t),.int .i64 N],.bool ok]))):=⟨⟨op,(K3 t),N⟩,ok,rfl,HY2.out t ok hun⟩;clear a0k hun HY2;have a1:=(MN.cell (by show w.heap.size<w6.heap.size;omega)).trans m0;have a2:=(MN.cell (by show w.heap.size<w6.heap.size;omega)).trans m1;have a3:=(MN.cell (by show w.heap.size<w6.heap.size;omega)).trans m2;have d0:w7.frozen? ⟨w.heap.size,0,none⟩=false:=(MN.frozen (by show w.heap.size<w6.heap.size;omega)).trans (by simpa using v0);have d1:w7.frozen? ⟨w.heap.size,1,none⟩=false:=(MN.frozen (by show w.heap.size<w6.heap.size;omega)).trans (by simpa using v1);have d2:w7.frozen? ⟨w.heap.size,2,none⟩=false:=(MN.frozen (by show w.heap.size<w6.heap.size;omega)).trans (by simpa using v2);have q0:=(MN.cell (by show w4.heap.size<w6.heap.size;omega)).trans ((World.cell?_setCell_other _ _ _ _ (Pb O0)).trans i0);have q1:=(MN.cell (by show w4.heap.size<w6.heap.size;omega)).trans ((World.cell?_setCell_other _ _ _ _ (Pb O0)).trans i1);have q2:=(MN.cell (by show w4.heap.size<w6.heap.size;omega)).trans (World.cell?_setCell_same _ _ _ i2);have g1:w7.frozen? ⟨w4.heap.size,1,none⟩=false:=(MN.frozen (by show w4.heap.size<w6.heap.size;omega)).trans (by simpa using j1);have hB7:=(bX.setCell (p:=⟨w4.heap.size,2,none⟩) (by show w.heap.size<=w4.heap.size;omega) _).trans (MN.mono O0);have b0':=Me (q:=⟨w4.heap.size,1,none⟩) (by exact hq2) a1 (.string (K3 t));have b1':=Me (q:=⟨w4.heap.size,1,none⟩) (by exact hq2) a2 (.string (K3 t));have b2':=Me (q:=⟨w4.heap.size,1,none⟩) (by exact hq2) a3 (.string (K3 t));clear m0 m1 m2 k1 k2 i0 i1 i2 x0 x1 x2 v0 v1 v2 t1 t2 MN;go_wp2;have F:=ja (w7.setCell ⟨w4.heap.size,1,none⟩ (.string (K3 t))) w.heap.size 0 (.int .i64 op) (.string (K3 t)) (.int .i64 N) _ _ _ b0' b1' b2';simp only [Nat.zero_add] at F;refine bodyPost_ret (v:=.tuple #[.agg #[.int .i64 op,.string (K3 t),.int .i64 N],.bool ok]) (by simp [results,Tryz.results92,go_sem,F]) rfl ⟨HI.out,((((hB7.setCell X3 _).setCell U0 _).setCell U0 _).setCell U0 _)⟩
end Go.Proofs.YtdpoaadafcaffaaGreatDoor
