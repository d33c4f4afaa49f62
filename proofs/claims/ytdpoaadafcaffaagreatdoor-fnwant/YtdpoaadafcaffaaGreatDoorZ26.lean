import Derived.Test.YtdpoaadafcaffaaGreatDoorZ15
set_option linter.unusedVariables false
set_option maxHeartbeats 8000000
set_option maxRecDepth 100000
set_option linter.unusedSimpArgs false
namespace Go.Proofs.YtdpoaadafcaffaaGreatDoor.G
open Proofs.Tryz
open Go.RowKit
theorem qI (x:M3) (w:World) (hs:x.le 1048700):
 Calls prog 26 #[.agg #[.string x.nm,.string x.tl,.string x.ar]] w fun e w'=>e=.returned (.bool (Z9 x))/\Below w.heap.size w w':=by
 have HF:Hid (Z9 x=(Y1 x.nm.data.toList&&Y1 x.tl.data.toList&&decide ((x.ar.size:Int)<=300))):=rfl;obtain ⟨h1,h2,h3⟩:=hs;go_enter func26,ntmps26
 go_wp2_with fail
 refine (c17 _ _ h1).mono ?_;rintro e w1 ⟨rfl,rfl⟩;cases hn:Y1 x.nm.data.toList
 · rw [hn] at HF
   go_wp2
   all_goals go_ret
   all_goals exact ⟨U4 (by rw [HF.out];simp),bA⟩
 rw [hn] at HF
 go_wp2_with fail
 refine (c17 _ _ h2).mono ?_;rintro e w1 ⟨rfl,rfl⟩;cases hm:Y1 x.tl.data.toList
 all_goals
  rw [hm] at HF;go_wp2
  all_goals go_ret
  all_goals exact ⟨U4 (by rw [HF.out];simp),bA⟩
theorem ZH {x:M3} {v:Bool} (hv:Z9 x=v) (w:World) (hs:x.le 1048700):
 Calls prog 26 #[.agg #[.string x.nm,.string x.tl,.string x.ar]] w fun e w'=>e=.returned (.bool v)/\Below w.heap.size w w':=hv▸qI x w hs
theorem zB (s:ByteArray) (w:World) (hs:s.size<=1048700):
 Calls prog 98 #[.string s] w fun e w'=>e=.returned (.string (K3 (J4 s.data.toList)))/\Below w.heap.size w w':=fK s w hs
def Jc (x:M3):List UInt8:=x.nm.data.toList++[32]++x.tl.data.toList++[32]++J4 x.ar.data.toList
def I7 (x:M3):List UInt8:=[109,97,107,101,32]++Jc x++[10]
theorem ae {w:World} {base:Nat} {e:TypeId} {size:Nat} {v:Value} {n:Nat} {xs:List Value} (h:w.ownsRow base e size v n xs) (hn:0<n):∃ g cp,v=.slice (some ⟨g,0,none⟩) n cp:=by
 rcases h.2 with ⟨_,h0⟩ | ⟨g,cap,cur,hv,_⟩
 · omega
 exact ⟨g,cap,hv⟩
theorem U8 (s:ByteArray) (a b:Nat):(s.extract a b).data.toList=(s.data.toList.take b).drop a:=by
 rw [ByteArray.data_extract,Array.toList_extract,List.extract_eq_take_drop,List.drop_take]
def E_ (l:List UInt8):Nat->List UInt8
 | 0=>l
 | k+1=>Z0 (E_ l k)
def Td (l:List UInt8) (k:Nat):List (List UInt8):=(List.range k).map fun j=>U1 (E_ l j)
theorem Zj (l:List UInt8) (k:Nat):Td l (k+1)=Td l k++[U1 (E_ l k)]:=by simp [Td,List.range_succ]
theorem I9 (l:List UInt8):(U1 l).length<=l.length/\(Z0 l).length<=l.length:=by
 unfold U1 Z0;refine ⟨(List.takeWhile_sublist _).length_le,?_⟩;have:=(List.dropWhile_sublist (l:=l) (· !=32)).length_le;simp only [List.length_drop];omega
theorem zg (l:List UInt8) (k:Nat):(E_ l k).length<=l.length:=by
 induction k with
 | zero=>exact Nat.le_refl _
 | succ k ih=>exact Nat.le_trans (I9 _).2 ih
theorem nH (s:ByteArray) (w:World) (hs:s.size<=1048700):
 Calls prog 121 #[.string s,.int .i64 3] w fun e w'=>(∃ g cp,e=.returned (.tuple #[.slice (some ⟨g,0,none⟩) 3 cp,.string (K3 (E_ s.data.toList 3))])/\w.heap.size<=g/\P6 w' g (Td s.data.toList 3))/\Below w.heap.size w w':=by
 obtain ⟨i0,hi,hz0,hz1,hz2⟩:=info_parts Yv;have hlen:s.data.toList.length=s.size:=U0;go_enter func121,ntmps121
 go_wp2_with fail
 go_loopw [0,6,7] (fun sv v i wr=>∃ (m:Nat) (t:ByteArray) (ss:List (List UInt8)),m<=3/\i=.int .i64 m/\sv=.string t/\wr.ownsRow w.heap.size 9 1 v m (Ei ss)/\Hid (t=K3 (E_ s.data.toList m)/\ss=Td s.data.toList m)/\Below w.heap.size w wr/\w.heap.size+1<=wr.heap.size) (fun _ _ i _=>3 - (intOf i).toNat)
 case atStart=>exact ⟨0,s,[],Nat.zero_le _,rfl,rfl,World.ownsRow_lit _ #[] 0 Q8 (Nat.zero_le _) rfl,⟨rfl,rfl⟩,bA,U0⟩
 obtain ⟨m,t,ss,hm,rfl,rfl,hown,hrel,hb,hz⟩:=hrel;by_cases hlt:m<3;rotate_left
 · obtain rfl:m=3:=O0
   obtain ⟨rfl,rfl⟩:=hrel.out;clear hrel;obtain ⟨g,cp,hvv⟩:=ae hown O0;subst hvv;go_wp2;go_ret2;exact ⟨⟨g,cp,rfl,(hown.lt g rfl).1,Vb hown rfl⟩,hb⟩
 obtain ⟨hT,rfl⟩:=hrel.out;have hts:t.size<=1048700:=by rw [hT,Y2];have:=zg s.data.toList m;omega
 have UT:t.data.toList=E_ s.data.toList m:=by rw [hT];simp [K3]
 have HTL:=Q0 UT;have a3e:t.data.toList.length=t.size:=U0;clear hT UT;clear hrel
 go_wp2_with fail
 go_loop [8] (fun n=>∃ k:Nat,k<=t.size/\n=.int .i64 k/\Hid ((t.data.toList.take k).all (· !=32)=true)) (fun n=>t.size - (intOf n).toNat)
 case atStart=>exact ⟨0,Nat.zero_le _,rfl,rfl⟩
 obtain ⟨k,hk,rfl,ha⟩:=hrel;by_cases hkt:k<t.size;rotate_left
 · obtain ⟨hw1,hw2⟩:=Oe (l:=t.data.toList) ha.out O0 (.inl O0)
   have HW:Hid (t.extract 0 k=K3 (U1 t.data.toList)):=P9 (by rw [U8,hw1];rfl);have HR:Hid (t.extract k t.size=K3 (Z0 t.data.toList)):=P9 (by rw [U8,hw2,List.take_of_length_le O0,List.drop_of_length_le O0,List.drop_of_length_le O0]);clear hw1 hw2
   go_wp2_with (at_builtin;refine wpList_append_own _ rfl _ _ 73 rfl w.heap.size 9 i0 (.string ⟨#[]⟩) 1 16 underlying73 hi hz0 hz1 hz2 rfl J3 _ _ _ rfl (hown.alloc _) ⟨wr.heap.size,0,none⟩ 1 1 [_] rfl rfl (cell_one_new _ _ _) (by intro u hu;simp at hu;subst hu;rfl) (by unfold maxLen;omega) O0 X3 ?_;intro v' w2 hown' hgrow _)
   go_roundw
   case rel=>
    have hB2:=(hb.alloc hb.size _).grown hgrow X3 (fun j hj=>(hown.lt j hj).1);refine ⟨m+1,_,Td s.data.toList (m+1),O0,by go_num,rfl,?_,⟨by rw [HR.out,HTL.out];rfl,rfl⟩,hB2,by have:=hgrow.size;simp at this;omega⟩;rw [Zj,Uc,<- HTL.out,<- HW.out];exact hown'
   case measure=>simp [intOf];omega
 have a1Z:(k:Int)<(t.size:Int):=O0;by_cases h32:t[k]=32
 · have e1:((t[k].toNat:Int) !=32)=false:=by rw [h32];rfl
   obtain ⟨hw1,hw2⟩:=Oe (l:=t.data.toList) ha.out O0 (.inr (by simp [hkt];exact h32));have HW:Hid (t.extract 0 k=K3 (U1 t.data.toList)):=P9 (by rw [U8,hw1];rfl);have HR:Hid (t.extract (k+1) t.size=K3 (Z0 t.data.toList)):=P9 (by rw [U8,hw2,List.take_of_length_le O0]);clear h32 hw1 hw2
   go_wp2_with (at_builtin;refine wpList_append_own _ rfl _ _ 73 rfl w.heap.size 9 i0 (.string ⟨#[]⟩) 1 16 underlying73 hi hz0 hz1 hz2 rfl J3 _ _ _ rfl (hown.alloc _) ⟨wr.heap.size,0,none⟩ 1 1 [_] rfl rfl (cell_one_new _ _ _) (by intro u hu;simp at hu;subst hu;rfl) (by unfold maxLen;omega) O0 X3 ?_;intro v' w2 hown' hgrow _)
   go_roundw
   case rel=>
    have hB2:=(hb.alloc hb.size _).grown hgrow X3 (fun j hj=>(hown.lt j hj).1);refine ⟨m+1,_,Td s.data.toList (m+1),O0,by go_num,rfl,?_,⟨by rw [HR.out,HTL.out];rfl,rfl⟩,hB2,by have:=hgrow.size;simp at this;omega⟩;rw [Zj,Uc,<- HTL.out,<- HW.out];exact hown'
   case measure=>simp [intOf];omega
 have e1:((t[k].toNat:Int) !=32)=true:=by
  simp only [bne_iff_ne];intro e;exact h32 (UInt8.toNat_inj.1 (by have:t[k].toNat=32:=O0;rw [this];rfl))
 have HA:Hid ((t.data.toList.take (k+1)).all (· !=32)=true):=by
  rw [o9 t k hkt,List.all_append,ha.out];simp [Hid,h32]
 clear h32;go_wp2
 go_round
 case rel=>exact ⟨k+1,O0,by go_num,HA⟩
 case measure=>simp [intOf];omega
variable {is js ms:List M3} {base i k:Nat} {x y:M3} {b s:ByteArray} {R S a l q r t:List UInt8}
def D_ (ms:List M3) (k:Nat):Bool:=Z9 (ms.getD k X6)&&(decide (k=0) || Op.bytesLess (ms.getD (k - 1) X6).nm.toList (ms.getD k X6).nm.toList)
def d_ (ms:List M3):Bool:=decide (ms.length<=30)&&(List.range ms.length).all (D_ ms)
theorem Gc (ms:List M3):d_ ms=true↔ms.length<=30/\∀ k,k<ms.length->D_ ms k=true:=by simp [d_]
def Ka (ms:List M3):List UInt8:=if d_ ms=true/\(ms.flatMap I7).length<=300 then ms.flatMap I7 else []
theorem Si (h:k<ms.length) (hs:D_ ms k=false):d_ ms=false:=by
 cases hp:d_ ms
 · rfl
 have:=((Gc ms).1 hp).2 k h;rw [hs] at this;cases this
theorem Zh (h:k<ms.length) (hs:D_ ms k=false):Ka ms=[]:=by
 unfold Ka;rw [if_neg (by simp [Si h hs])]
theorem Dx (h:30<ms.length):Ka ms=[]:=by
 unfold Ka;rw [if_neg (by rw [Gc];omega)]
theorem Ki (h:Z9 x=true):x.nm.size<=20/\x.tl.size<=20/\x.ar.size<=300:=by
 simp [Z9,Y1] at h;exact ⟨h.1.1.1.2,h.1.2.1.2,O0⟩
theorem oh (h:s.size<=300):(K3 (J4 s.data.toList)).size<=902:=by
 have:=Dj s.data.toList;have e:s.data.toList.length=s.size:=U0;rw [Y2];omega
theorem step_ok (h:D_ ms k=true):Z9 (ms.getD k X6)=true:=by
 unfold D_ at h;cases hx:Z9 (ms.getD k X6)
 · rw [hx] at h;cases h
 rfl
theorem Wy (h:Z9 x=true):(I7 x).length<=950:=by
 obtain ⟨h1,h2,h3⟩:=Ki h;have s3:=oh h3;rw [Y2] at s3;have e1:x.nm.data.toList.length=x.nm.size:=U0;have e2:x.tl.data.toList.length=x.tl.size:=U0;simp only [I7,Jc,List.length_append,List.length_cons,List.length_nil,e1,e2];omega
theorem Nl (hk:k<ms.length):(ms.take (k+1)).flatMap I7=(ms.take k).flatMap I7++I7 (ms.getD k X6):=by
 have e:ms.getD k X6=ms[k]:=by simp [hk]
 rw [List.take_succ_eq_append_getElem hk,List.flatMap_append,e];simp
theorem Tx:∀ k,k<=ms.length->(∀ j,j<k->D_ ms j=true)->((ms.take k).flatMap I7).length<=950*k:=by
 intro k
 induction k with
 | zero=>intro _ _;simp
 | succ k ih=>
  intro hk hd;rw [Nl O0,List.length_append];have:=ih O0 (fun j hj=>hd j O0);have:=Wy (step_ok (hd k O0));omega
theorem Pt {a:ByteArray} (h:a=b):Value.string a=.string b:=by rw [h]
theorem Fv (l:List UInt8) (x:M3):K3 l++(⟨#[109,97,107,101,32]⟩:ByteArray)++x.nm++(⟨#[32]⟩:ByteArray)++x.tl++(⟨#[32]⟩:ByteArray)++K3 (J4 x.ar.data.toList)++(⟨#[10]⟩:ByteArray)=K3 (l++I7 x):=by
 apply ByteArray.ext;simp [K3,I7,Jc]
theorem GJ (a:Option Addr) (cap:Nat) (is:List M3) (w:World) (hs:∀ i,(is.getD i X6).le 1048576) (hl:is.length<=1048576) (hat:Ab w a is):
 Calls prog 63 #[.slice a is.length cap] w fun e w'=>e=.returned (.string (K3 (Ka is)))/\Below w.heap.size w w':=by
 obtain ⟨b,off,hc⟩:=qd hat;have HC:=Q0 hc;clear hc hat;by_cases hbig:30<is.length
 · go_enter func63,ntmps63
   go_wp2;go_ret;exact ⟨Sb (by rw [Dx hbig];rfl),Below.refl _ _⟩
 go_enter func63,ntmps63
 go_wp2_with fail
 go_loopw [3,4] (fun o i wr=>∃ (k:Nat),k<=is.length/\i=.int .i64 k/\o=.string (K3 ((is.take k).flatMap I7))/\Below w.heap.size w wr/\Hid (∀ j,j<k->D_ is j=true)) (fun _ i _=>is.length - (intOf i).toNat)
 case atStart=>exact ⟨0,Nat.zero_le _,rfl,rfl,Below.refl _ _,fun j h=>absurd h (Nat.not_lt_zero _)⟩
 obtain ⟨k,hk,rfl,rfl,hb,hdone⟩:=hrel;have hL:(K3 ((is.take k).flatMap I7)).size<=950*30:=by
  have:=Tx k hk hdone.out;rw [Y2];omega
 by_cases hlt:k<is.length;rotate_left
 · have hp:=(Gc is).2 ⟨O0,fun j hj=>hdone.out j O0⟩
   have HT:Hid ((is.take k).flatMap I7=is.flatMap I7):=by rw [List.take_of_length_le O0];rfl
   have HV:Hid (Ka is=if (is.flatMap I7).length<=300 then is.flatMap I7 else []):=by unfold Ka;simp only [hp,true_and];trivial
   clear hp;rw [HT.out] at hL ⊢;generalize is.flatMap I7=l at*;by_cases KL:300<(K3 l).size
   · go_wp2
     go_ret;exact ⟨Sb (by rw [HV.out,if_neg (by rw [Y2] at KL;omega)];rfl),hb⟩
   go_wp2;go_ret;exact ⟨Sb (by rw [HV.out,if_pos (by rw [Y2] at KL;omega)]),hb⟩
 rcases HC.out with hss | ⟨ha,hbw,hcell⟩
 · rw [hss] at hlt;exact absurd hlt (Nat.not_lt_zero _)
 subst ha;have HB:=Q0 hb;have g0:=(hb.cell (p:=⟨b,off+k*3,none⟩) hbw).trans (hcell k hlt).1;have g1:=(hb.cell (p:=⟨b,off+k*3+1,none⟩) hbw).trans (hcell k hlt).2.1;have g2:=(hb.cell (p:=⟨b,off+k*3+2,none⟩) hbw).trans (hcell k hlt).2.2;have hsx:Hid ((is.getD k X6).le 1048700):=⟨Nat.le_trans (hs k).1 O0,Nat.le_trans (hs k).2.1 O0,Nat.le_trans (hs k).2.2 O0⟩;have HT:=Q0 (Nl hlt);generalize (is.take k).flatMap I7=l at*;rcases Nat.eq_zero_or_pos k with h0 | h0
 · subst h0
   have HS:Hid (D_ is 0=Z9 (is.getD 0 X6)):=by simp [D_,Hid]
   simp only [Nat.zero_mul,Nat.add_zero] at g0 g1 g2;generalize is.getD 0 X6=x at*;clear hcell hb
   go_wp2_with fail
   have SL:Hid (Below w.heap.size w (wr.alloc (.cells #[.string x.nm,.string x.tl,.string x.ar] 35))):=HB.out.alloc HB.out.size _;have m0:(wr.alloc (.cells #[.string x.nm,.string x.tl,.string x.ar] 35)).cell? ⟨wr.heap.size,0,none⟩=some (.string x.nm):=U0;have m1:(wr.alloc (.cells #[.string x.nm,.string x.tl,.string x.ar] 35)).cell? ⟨wr.heap.size,1,none⟩=some (.string x.tl):=U0;have m2:(wr.alloc (.cells #[.string x.nm,.string x.tl,.string x.ar] 35)).cell? ⟨wr.heap.size,2,none⟩=some (.string x.ar):=U0;have hmz:wr.heap.size<(wr.alloc (.cells #[.string x.nm,.string x.tl,.string x.ar] 35)).heap.size:=U0;clear g0 g1 g2;generalize (wr.alloc (.cells #[.string x.nm,.string x.tl,.string x.ar] 35))=W at*;cases hx:Z9 x
   · refine wp_region_held_drew (S:=(fun u=>u.cell? ⟨wr.heap.size,0,none⟩=some (.string x.nm)/\u.cell? ⟨wr.heap.size,1,none⟩=some (.string x.tl)/\u.cell? ⟨wr.heap.size,2,none⟩=some (.string x.ar))) I1 ?_ fun hH=>?_
     · ((try dsimp only);go_keep)
     refine tq 0 hH ?_
     try simp only [qq]
     refine rq 1 fun K hK=>?_;go_simp;refine (Dh hx _ hsx.out).mono ?_;rintro e w1 ⟨rfl,hb1⟩;have HB1:Hid (Below W.heap.size W w1):=((Below.refl _ _).drew).trans hb1;have p0:=(HB1.out.cell (p:=⟨wr.heap.size,0,none⟩) hmz).trans m0;have p1:=(HB1.out.cell (p:=⟨wr.heap.size,1,none⟩) hmz).trans m1;have p2:=(HB1.out.cell (p:=⟨wr.heap.size,2,none⟩) hmz).trans m2
     go_wp2_with fail
     clear hH;refine hK.out _ _ ?_ fun hH=>?_
     · ((try dsimp only);go_keep)
     clear hK K;refine tq 2 hH ?_;refine tq 3 hH ?_
     try simp only [qq]
     refine uq 4 hH ?_;refine uq 5 hH ?_
     try simp only [qq]
     refine uq 6 hH ?_;refine uq 7 hH ?_
     try simp only [qq]
     refine uq 8 hH ?_;refine uq 9 hH ?_
     try simp only [qq]
     refine uq 10 hH ?_;refine uq 11 hH ?_
     try simp only [qq]
     refine uq 12 hH ?_;refine uq 13 hH ?_
     try simp only [qq]
     refine uq 14 hH ?_;refine uq 15 hH ?_
     try simp only [qq]
     refine uq 16 hH ?_;refine tq 17 hH ?_
     try simp only [qq]
     refine wpAnyH_done I1 ?_ _;have hB1:=bT SL.out HB1.out;rw [hx] at HS;clear hH;go_wp2;go_ret;exact ⟨Sb (by rw [Zh hlt HS.out];rfl),hB1⟩
   refine wp_region_held_drew (S:=(fun u=>u.cell? ⟨wr.heap.size,0,none⟩=some (.string x.nm)/\u.cell? ⟨wr.heap.size,1,none⟩=some (.string x.tl)/\u.cell? ⟨wr.heap.size,2,none⟩=some (.string x.ar))) I1 ?_ fun hH=>?_
   · ((try dsimp only);go_keep)
   refine tq 0 hH ?_
   try simp only [qq]
   refine rq 1 fun K hK=>?_;go_simp;refine (Dh hx _ hsx.out).mono ?_;rintro e w1 ⟨rfl,hb1⟩;have HB1:Hid (Below W.heap.size W w1):=((Below.refl _ _).drew).trans hb1;have p0:=(HB1.out.cell (p:=⟨wr.heap.size,0,none⟩) hmz).trans m0;have p1:=(HB1.out.cell (p:=⟨wr.heap.size,1,none⟩) hmz).trans m1;have p2:=(HB1.out.cell (p:=⟨wr.heap.size,2,none⟩) hmz).trans m2
   go_wp2_with fail
   clear hH;refine hK.out _ _ ?_ fun hH=>?_
   · ((try dsimp only);go_keep)
   clear hK K;refine tq 2 hH ?_;refine tq 3 hH ?_
   try simp only [qq]
   refine tq 4 hH ?_;refine tq 5 hH ?_
   try simp only [qq]
   refine tq 6 hH ?_;refine uq 7 hH ?_
   try simp only [qq]
   refine uq 8 hH ?_;refine uq 9 hH ?_
   try simp only [qq]
   refine uq 10 hH ?_;refine uq 11 hH ?_
   try simp only [qq]
   refine uq 12 hH ?_;refine uq 13 hH ?_
   try simp only [qq]
   refine uq 14 hH ?_;refine uq 15 hH ?_
   try simp only [qq]
   refine tq 16 hH ?_;refine tq 17 hH ?_
   try simp only [qq]
   refine wpAnyH_done I1 ?_ _;have hB1:=bT SL.out HB1.out;rw [hx] at HS;clear hH;have hd':Hid (∀ j,j<0+1->D_ is j=true):=fun j hj=>by
    rcases Nat.lt_or_ge j 0 with h | h
    · exact hdone.out j h
    obtain rfl:j=0:=O0;exact HS.out
   have hwz:=Nat.lt_of_lt_of_le hmz HB1.out.size;obtain ⟨j1,j2,j3⟩:=Ki hx;have s3:=oh j3;have k0:¬ 9223372036854775807<(K3 l).size+5:=O0;have k1:¬ 9223372036854775807<(K3 l).size+5+x.nm.size:=O0;have k2:¬ 9223372036854775807<(K3 l).size+5+x.nm.size+1:=O0;have k2':¬ 9223372036854775807<=(K3 l).size+5+x.nm.size:=O0;have k3:¬ 9223372036854775807<(K3 l).size+5+x.nm.size+1+x.tl.size:=O0;have k4:¬ 9223372036854775807<(K3 l).size+5+x.nm.size+1+x.tl.size+1:=O0;have k4':¬ 9223372036854775807<=(K3 l).size+5+x.nm.size+1+x.tl.size:=O0;have k5:¬ 9223372036854775807<(K3 l).size+5+x.nm.size+1+x.tl.size+1+(K3 (J4 x.ar.data.toList)).size:=O0;have k6:¬ 9223372036854775807<(K3 l).size+5+x.nm.size+1+x.tl.size+1+(K3 (J4 x.ar.data.toList)).size+1:=O0;have k6':¬ 9223372036854775807<=(K3 l).size+5+x.nm.size+1+x.tl.size+1+(K3 (J4 x.ar.data.toList)).size:=O0;have UX:x.ar.size<=1048700:=O0
   go_wp2_with fail
   go_region_held3 (fun u=>u.cell? ⟨wr.heap.size,0,none⟩=some (.string x.nm)/\u.cell? ⟨wr.heap.size,1,none⟩=some (.string x.tl)/\u.cell? ⟨wr.heap.size,2,none⟩=some (.string x.ar)) (go_keep) (first | (go_at_call 98;refine (zB x.ar _ UX).mono ?_;rintro e w2 ⟨rfl,hb2⟩;have HB2:Hid (Below w.heap.size w w2):=hB1.trans (((Below.refl _ _).drew.trans hb2).mono hB1.size);have e0:=(hb2.cell (p:=⟨wr.heap.size,0,none⟩) (by simpa using hwz)).trans p0;have e1:=(hb2.cell (p:=⟨wr.heap.size,1,none⟩) (by simpa using hwz)).trans p1;have e2:=(hb2.cell (p:=⟨wr.heap.size,2,none⟩) (by simpa using hwz)).trans p2))
   all_goals go_wp2
   all_goals go_roundw
   all_goals first
    | exact ⟨0+1,O0,by go_num,Pt (by rw [HT.out];exact Fv l x),HB2.out,hd'⟩
    | (simp [intOf];omega)
 obtain ⟨q,hq⟩:∃ q,q+1=k:=⟨k - 1,O0⟩;have g3':=(hb.cell (p:=⟨b,off+q*3,none⟩) hbw).trans (hcell q O0).1;have EU:=Nat.lt_of_lt_of_le hbw hb.size;have HS:Hid (D_ is k=(Z9 (is.getD k X6)&&Op.bytesLess (is.getD q X6).nm.toList (is.getD k X6).nm.toList)):=by
  have e1:decide (k=0)=false:=decide_eq_false O0;have e2:k - 1=q:=O0;unfold D_;rw [e1,e2];rfl
 have hm0:(0:Int)<(k:Int):=O0;have hm1:=decide_eq_true hm0;generalize is.getD k X6=x at*;generalize is.getD q X6=y at*;have hwr:IntKind.i64.wrap ((k:Int) - 1)=(q:Int):=by rw [show (k:Int) - 1=(q:Int) by omega];exact ni q O0
 have YQ:(q:Int)<(is.length:Int):=O0;clear hq;clear hcell hb
 go_wp2_with fail
 have SL:Hid (Below w.heap.size w (wr.alloc (.cells #[.string x.nm,.string x.tl,.string x.ar] 35))):=HB.out.alloc HB.out.size _;have m0:(wr.alloc (.cells #[.string x.nm,.string x.tl,.string x.ar] 35)).cell? ⟨wr.heap.size,0,none⟩=some (.string x.nm):=U0;have m1:(wr.alloc (.cells #[.string x.nm,.string x.tl,.string x.ar] 35)).cell? ⟨wr.heap.size,1,none⟩=some (.string x.tl):=U0;have m2:(wr.alloc (.cells #[.string x.nm,.string x.tl,.string x.ar] 35)).cell? ⟨wr.heap.size,2,none⟩=some (.string x.ar):=U0;have hmz:wr.heap.size<(wr.alloc (.cells #[.string x.nm,.string x.tl,.string x.ar] 35)).heap.size:=U0;have hbr:=Nat.lt_trans EU hmz;have g3:(wr.alloc (.cells #[.string x.nm,.string x.tl,.string x.ar] 35)).cell? ⟨b,off+q*3,none⟩=some (.string y.nm):=(World.cell?_alloc_lt _ _ ⟨b,off+q*3,none⟩ EU).trans g3';clear g3';clear g0 g1 g2;generalize (wr.alloc (.cells #[.string x.nm,.string x.tl,.string x.ar] 35))=W at*;cases hx:Z9 x
 · cases hy:Op.bytesLess y.nm.toList x.nm.toList
   · refine wp_region_held_drew (S:=(fun u=>u.cell? ⟨wr.heap.size,0,none⟩=some (.string x.nm)/\u.cell? ⟨wr.heap.size,1,none⟩=some (.string x.tl)/\u.cell? ⟨wr.heap.size,2,none⟩=some (.string x.ar)/\u.cell? ⟨b,off+q*3,none⟩=some (.string y.nm))) I1 ?_ fun hH=>?_
     · ((try dsimp only);go_keep)
     refine tq 0 hH ?_
     try simp only [qq]
     refine rq 1 fun K hK=>?_;go_simp;refine (Dh hx _ hsx.out).mono ?_;rintro e w1 ⟨rfl,hb1⟩;have HB1:Hid (Below W.heap.size W w1):=((Below.refl _ _).drew).trans hb1;have p0:=(HB1.out.cell (p:=⟨wr.heap.size,0,none⟩) hmz).trans m0;have p1:=(HB1.out.cell (p:=⟨wr.heap.size,1,none⟩) hmz).trans m1;have p2:=(HB1.out.cell (p:=⟨wr.heap.size,2,none⟩) hmz).trans m2;have p3:=(HB1.out.cell (p:=⟨b,off+q*3,none⟩) hbr).trans g3
     go_wp2_with fail
     clear hH;refine hK.out _ _ ?_ fun hH=>?_
     · ((try dsimp only);go_keep)
     clear hK K;refine tq 2 hH ?_;refine tq 3 hH ?_
     try simp only [qq]
     refine uq 4 hH ?_;refine uq 5 hH ?_
     try simp only [qq]
     refine uq 6 hH ?_;refine uq 7 hH ?_
     try simp only [qq]
     refine uq 8 hH ?_;refine uq 9 hH ?_
     try simp only [qq]
     refine uq 10 hH ?_;refine uq 11 hH ?_
     try simp only [qq]
     refine uq 12 hH ?_;refine uq 13 hH ?_
     try simp only [qq]
     refine uq 14 hH ?_;refine uq 15 hH ?_
     try simp only [qq]
     refine uq 16 hH ?_;refine tq 17 hH ?_
     try simp only [qq]
     refine wpAnyH_done I1 ?_ _;have hB1:=bT SL.out HB1.out;rw [hx,hy] at HS;clear hH;go_wp2;go_ret;exact ⟨Sb (by rw [Zh hlt HS.out];rfl),hB1⟩
   refine wp_region_held_drew (S:=(fun u=>u.cell? ⟨wr.heap.size,0,none⟩=some (.string x.nm)/\u.cell? ⟨wr.heap.size,1,none⟩=some (.string x.tl)/\u.cell? ⟨wr.heap.size,2,none⟩=some (.string x.ar)/\u.cell? ⟨b,off+q*3,none⟩=some (.string y.nm))) I1 ?_ fun hH=>?_
   · ((try dsimp only);go_keep)
   refine tq 0 hH ?_
   try simp only [qq]
   refine rq 1 fun K hK=>?_;go_simp;refine (Dh hx _ hsx.out).mono ?_;rintro e w1 ⟨rfl,hb1⟩;have HB1:Hid (Below W.heap.size W w1):=((Below.refl _ _).drew).trans hb1;have p0:=(HB1.out.cell (p:=⟨wr.heap.size,0,none⟩) hmz).trans m0;have p1:=(HB1.out.cell (p:=⟨wr.heap.size,1,none⟩) hmz).trans m1;have p2:=(HB1.out.cell (p:=⟨wr.heap.size,2,none⟩) hmz).trans m2;have p3:=(HB1.out.cell (p:=⟨b,off+q*3,none⟩) hbr).trans g3
   go_wp2_with fail
   clear hH;refine hK.out _ _ ?_ fun hH=>?_
   · ((try dsimp only);go_keep)
   clear hK K;refine tq 2 hH ?_;refine tq 3 hH ?_
   try simp only [qq]
   refine uq 4 hH ?_;refine uq 5 hH ?_
   try simp only [qq]
   refine uq 6 hH ?_;refine uq 7 hH ?_
   try simp only [qq]
   refine uq 8 hH ?_;refine uq 9 hH ?_
   try simp only [qq]
   refine uq 10 hH ?_;refine uq 11 hH ?_
   try simp only [qq]
   refine uq 12 hH ?_;refine uq 13 hH ?_
   try simp only [qq]
   refine uq 14 hH ?_;refine uq 15 hH ?_
   try simp only [qq]
   refine uq 16 hH ?_;refine tq 17 hH ?_
   try simp only [qq]
   refine wpAnyH_done I1 ?_ _;have hB1:=bT SL.out HB1.out;rw [hx,hy] at HS;clear hH;go_wp2;go_ret;exact ⟨Sb (by rw [Zh hlt HS.out];rfl),hB1⟩
 cases hy:Op.bytesLess y.nm.toList x.nm.toList
 · refine wp_region_held_drew (S:=(fun u=>u.cell? ⟨wr.heap.size,0,none⟩=some (.string x.nm)/\u.cell? ⟨wr.heap.size,1,none⟩=some (.string x.tl)/\u.cell? ⟨wr.heap.size,2,none⟩=some (.string x.ar)/\u.cell? ⟨b,off+q*3,none⟩=some (.string y.nm))) I1 ?_ fun hH=>?_
   · ((try dsimp only);go_keep)
   refine tq 0 hH ?_
   try simp only [qq]
   refine rq 1 fun K hK=>?_;go_simp;refine (Dh hx _ hsx.out).mono ?_;rintro e w1 ⟨rfl,hb1⟩;have HB1:Hid (Below W.heap.size W w1):=((Below.refl _ _).drew).trans hb1;have p0:=(HB1.out.cell (p:=⟨wr.heap.size,0,none⟩) hmz).trans m0;have p1:=(HB1.out.cell (p:=⟨wr.heap.size,1,none⟩) hmz).trans m1;have p2:=(HB1.out.cell (p:=⟨wr.heap.size,2,none⟩) hmz).trans m2;have p3:=(HB1.out.cell (p:=⟨b,off+q*3,none⟩) hbr).trans g3
   go_wp2_with fail
   clear hH;refine hK.out _ _ ?_ fun hH=>?_
   · ((try dsimp only);go_keep)
   clear hK K;refine tq 2 hH ?_;refine tq 3 hH ?_
   try simp only [qq]
   refine tq 4 hH ?_;refine tq 5 hH ?_
   try simp only [qq]
   refine tq 6 hH ?_;refine tq 7 hH ?_
   try simp only [qq]
   refine tq 8 hH ?_;refine tq 9 hH ?_
   try simp only [qq]
   refine tq 10 hH ?_;refine tq 11 hH ?_
   try simp only [qq]
   refine tq 12 hH ?_;refine tq 13 hH ?_
   try simp only [qq]
   refine tq 14 hH ?_;refine tq 15 hH ?_
   try simp only [qq]
   refine tq 16 hH ?_;refine tq 17 hH ?_
   try simp only [qq]
   refine wpAnyH_done I1 ?_ _;have hB1:=bT SL.out HB1.out;rw [hx,hy] at HS;clear hH;go_wp2;go_ret;exact ⟨Sb (by rw [Zh hlt HS.out];rfl),hB1⟩
 refine wp_region_held_drew (S:=(fun u=>u.cell? ⟨wr.heap.size,0,none⟩=some (.string x.nm)/\u.cell? ⟨wr.heap.size,1,none⟩=some (.string x.tl)/\u.cell? ⟨wr.heap.size,2,none⟩=some (.string x.ar)/\u.cell? ⟨b,off+q*3,none⟩=some (.string y.nm))) I1 ?_ fun hH=>?_
 · ((try dsimp only);go_keep)
 refine tq 0 hH ?_
 try simp only [qq]
 refine rq 1 fun K hK=>?_;go_simp;refine (Dh hx _ hsx.out).mono ?_;rintro e w1 ⟨rfl,hb1⟩;have HB1:Hid (Below W.heap.size W w1):=((Below.refl _ _).drew).trans hb1;have p0:=(HB1.out.cell (p:=⟨wr.heap.size,0,none⟩) hmz).trans m0;have p1:=(HB1.out.cell (p:=⟨wr.heap.size,1,none⟩) hmz).trans m1;have p2:=(HB1.out.cell (p:=⟨wr.heap.size,2,none⟩) hmz).trans m2;have p3:=(HB1.out.cell (p:=⟨b,off+q*3,none⟩) hbr).trans g3
 go_wp2_with fail
 clear hH;refine hK.out _ _ ?_ fun hH=>?_
 · ((try dsimp only);go_keep)
 clear hK K;refine tq 2 hH ?_;refine tq 3 hH ?_
 try simp only [qq]
 refine tq 4 hH ?_;refine tq 5 hH ?_
 try simp only [qq]
 refine tq 6 hH ?_;refine tq 7 hH ?_
 try simp only [qq]
 refine tq 8 hH ?_;refine tq 9 hH ?_
 try simp only [qq]
 refine tq 10 hH ?_;refine tq 11 hH ?_
 try simp only [qq]
 refine tq 12 hH ?_;refine tq 13 hH ?_
 try simp only [qq]
 refine tq 14 hH ?_;refine tq 15 hH ?_
 try simp only [qq]
 refine tq 16 hH ?_;refine tq 17 hH ?_
 try simp only [qq]
 refine wpAnyH_done I1 ?_ _;have hB1:=bT SL.out HB1.out;rw [hx,hy] at HS;clear hH;have hd':Hid (∀ j,j<k+1->D_ is j=true):=fun j hj=>by
  rcases Nat.lt_or_ge j k with h | h
  · exact hdone.out j h
  obtain rfl:j=k:=O0;exact HS.out
 have hwz:=Nat.lt_of_lt_of_le hmz HB1.out.size;obtain ⟨j1,j2,j3⟩:=Ki hx;have s3:=oh j3;have k0:¬ 9223372036854775807<(K3 l).size+5:=O0;have k1:¬ 9223372036854775807<(K3 l).size+5+x.nm.size:=O0;have k2:¬ 9223372036854775807<(K3 l).size+5+x.nm.size+1:=O0;have k2':¬ 9223372036854775807<=(K3 l).size+5+x.nm.size:=O0;have k3:¬ 9223372036854775807<(K3 l).size+5+x.nm.size+1+x.tl.size:=O0;have k4:¬ 9223372036854775807<(K3 l).size+5+x.nm.size+1+x.tl.size+1:=O0;have k4':¬ 9223372036854775807<=(K3 l).size+5+x.nm.size+1+x.tl.size:=O0;have k5:¬ 9223372036854775807<(K3 l).size+5+x.nm.size+1+x.tl.size+1+(K3 (J4 x.ar.data.toList)).size:=O0;have k6:¬ 9223372036854775807<(K3 l).size+5+x.nm.size+1+x.tl.size+1+(K3 (J4 x.ar.data.toList)).size+1:=O0;have k6':¬ 9223372036854775807<=(K3 l).size+5+x.nm.size+1+x.tl.size+1+(K3 (J4 x.ar.data.toList)).size:=O0;have UX:x.ar.size<=1048700:=O0
 go_wp2_with fail
 go_region_held3 (fun u=>u.cell? ⟨wr.heap.size,0,none⟩=some (.string x.nm)/\u.cell? ⟨wr.heap.size,1,none⟩=some (.string x.tl)/\u.cell? ⟨wr.heap.size,2,none⟩=some (.string x.ar)) (go_keep) (first | (go_at_call 98;refine (zB x.ar _ UX).mono ?_;rintro e w2 ⟨rfl,hb2⟩;have HB2:Hid (Below w.heap.size w w2):=hB1.trans (((Below.refl _ _).drew.trans hb2).mono hB1.size);have e0:=(hb2.cell (p:=⟨wr.heap.size,0,none⟩) (by simpa using hwz)).trans p0;have e1:=(hb2.cell (p:=⟨wr.heap.size,1,none⟩) (by simpa using hwz)).trans p1;have e2:=(hb2.cell (p:=⟨wr.heap.size,2,none⟩) (by simpa using hwz)).trans p2))
 all_goals go_wp2
 all_goals go_roundw
 all_goals first
  | exact ⟨k+1,O0,by go_num,Pt (by rw [HT.out];exact Fv l x),HB2.out,hd'⟩
  | (simp [intOf];omega)
theorem EC (l:List UInt8):(Lib.cut l [32]).2.1=Z0 l:=by
 unfold Lib.cut;rcases Zk l with ⟨h,hn⟩ | ⟨i,h,_,_,h2⟩
 · rw [h,if_neg O0,(Fe hn).2]
 rw [h,if_pos O0];exact h2
theorem Gy (l:List UInt8):D6 l (min 3 (l.length+1) - 1)=D6 l 2:=by
 rcases Nat.lt_or_ge l.length 2 with h | h;rotate_left
 · have:min 3 (l.length+1)=3:=O0
   rw [this]
 cases l with
 | nil=>rw [j_ _ U0,j_ _ U0]
 | cons c r=>
  cases r with
  | cons d r=>simp at h;omega
  | nil=>
   by_cases h32:(32:UInt8)∈[c]
   · have e:Z0 [c]=[]:=by
      simp only [List.mem_singleton] at h32;subst h32;rfl
     have e1:min 3 ([c].length+1) - 1=0+1:=rfl;rw [e1,o_ 0 h32,o_ 1 h32,e,j_ _ U0,j_ _ U0]
   rw [j_ _ h32,j_ _ h32]
theorem zw {b:List UInt8} (ha:(32:UInt8)∉a) (hb:(32:UInt8)∉b) (h:a++32::r=b++32::q):a=b/\r=q:=by
 induction a generalizing b with
 | nil=>
  cases b with
  | nil=>simpa using h
  | cons c b=>simp at h;exact absurd (by rw [h.1];simp) hb
 | cons d a ih=>
  cases b with
  | nil=>simp at h;exact absurd (by rw [h.1];simp) ha
  | cons c b=>
   simp only [List.cons_append,List.cons.injEq] at h;obtain ⟨h1,h2⟩:=ih (fun h=>ha (List.mem_cons_of_mem _ h)) (fun h=>hb (List.mem_cons_of_mem _ h)) h.2;exact ⟨by rw [h.1,h1],h2⟩
theorem Rb (h:Y1 l=true):(32:UInt8)∉l/\(10:UInt8)∉l:=by
 simp only [Y1,Bool.and_eq_true,List.all_eq_true] at h;constructor
 · intro hm
   have:=h.2 _ hm;revert this;decide
 intro hm;have:=h.2 _ hm;revert this;decide
theorem Ie (h:Z9 x=true):Y1 x.nm.data.toList=true/\Y1 x.tl.data.toList=true/\(x.ar.size:Int)<=300:=by
 simp only [Z9,Bool.and_eq_true,decide_eq_true_eq] at h;exact ⟨h.1.1,h.1.2,h.2⟩
theorem Qb (x:M3):Jc x=x.nm.data.toList++32::(x.tl.data.toList++32::J4 x.ar.data.toList):=by simp [Jc]
theorem JC (x:M3):Jc x≠[]:=by rw [Qb];simp
def Ha (x:M3):List UInt8:=[109,97,107,101]++32::Jc x
theorem R8 (x:M3):I7 x=Ha x++[10]:=rfl
theorem N_ (h:Z9 x=true):(10:UInt8)∉Ha x:=by
 obtain ⟨h1,h2,_⟩:=Ie h;unfold Ha;rw [Qb];simp only [List.mem_append,List.mem_cons,not_or];refine ⟨J3,J3,(Rb h1).2,J3,(Rb h2).2,J3,Ml _⟩
theorem ky (hx:Z9 x=true) (hy:Z9 y=true) (h:Jc x=Jc y):x=y:=by
 obtain ⟨a1,a2,_⟩:=Ie hx;obtain ⟨b1,b2,_⟩:=Ie hy;rw [Qb,Qb] at h;obtain ⟨e1,h⟩:=zw (Rb a1).1 (Rb b1).1 h;obtain ⟨e2,h⟩:=zw (Rb a2).1 (Rb b2).1 h;have e3:=Re h;cases x;cases y;simp only [M3.mk.injEq];exact ⟨Gj e1,Gj e2,Gj e3⟩
theorem xm (hx:Z9 x=true) (hy:Z9 y=true) (h:Ha x=Ha y):x=y:=by
 unfold Ha at h;exact ky hx hy (by simpa using h)
theorem Vo (_hy:Z9 y=true):l=Ha y↔U1 l=[109,97,107,101]/\Z0 l=Jc y:=by
 constructor
 · rintro rfl
   exact K5 J3
 rintro ⟨h1,h2⟩;by_cases hm:(32:UInt8)∈l
 · have:=(Y8 hm).1
   rw [h1,h2] at this;exact this
 rw [(Fe hm).2] at h2;exact absurd h2.symm (JC y)
theorem Sm (hx:Z9 x=true) (hy:Z9 y=true) (h:I7 x++r=I7 y++q):x=y/\r=q:=by
 rw [R8,R8,List.append_assoc,List.append_assoc] at h;obtain ⟨h1,h2⟩:=ul (N_ hx) (N_ hy) h;exact ⟨xm hx hy h1,h2⟩
theorem mf (x:M3):I7 x≠[]:=by rw [R8];simp
theorem He (hi:is.all Z9=true) (hj:js.all Z9=true) (h:is.flatMap I7++R=js.flatMap I7):∃ r,R=r.flatMap I7/\js=is++r:=by
 induction is generalizing js with
 | nil=>exact ⟨js,by simpa using h,rfl⟩
 | cons x is ih=>
  simp only [List.all_cons,Bool.and_eq_true] at hi
  cases js with
  | nil=>
   have:=mf x;simp at h;exact absurd h.1 this
  | cons y js=>
   simp only [List.all_cons,Bool.and_eq_true] at hj;simp only [List.flatMap_cons,List.append_assoc] at h;obtain ⟨rfl,h2⟩:=Sm hi.1 hj.1 h;obtain ⟨r,hr,hl⟩:=ih hi.2 hj.2 h2;exact ⟨r,hr,by rw [hl];rfl⟩
theorem Ce (hi:is.all Z9=true) (hj:js.all Z9=true) (h:is.flatMap I7=js.flatMap I7):is=js:=by
 obtain ⟨r,hr,hl⟩:=He (R:=[]) hi hj (by simpa using h)
 cases r with
 | nil=>simpa using hl.symm
 | cons y r=>
  have:=mf y;simp at hr;exact absurd hr.1 this
theorem ug (is:List M3):is.length<=(is.flatMap I7).length:=by
 induction is with
 | nil=>simp
 | cons x r ih=>
  have:1<=(I7 x).length:=List.length_pos_iff.2 (mf x);simp only [List.flatMap_cons,List.length_append,List.length_cons];omega
theorem jc (h:d_ ms=true):ms.all Z9=true:=by
 rw [List.all_eq_true];intro x hx;obtain ⟨k,hk,e⟩:=List.getElem_of_mem hx;have:=step_ok (((Gc ms).1 h).2 k hk);rw [List.getD,List.getElem?_eq_getElem hk] at this;rw [<- e];exact this
def l9 (l:List UInt8) (is:List M3) (ok:Bool):Prop:=(ok=true->d_ is=true/\is.flatMap I7=l/\l.length<=300)/\(ok=false->is=[]/\∀ js,d_ js=true->js.flatMap I7=l->300<l.length)
theorem yu {a b:Bool} (h:l9 l is a) (k:l9 l js b):is=js/\a=b:=by
 cases a <;> cases b
 · exact ⟨(h.2 rfl).1.trans (k.2 rfl).1.symm,rfl⟩
 · obtain ⟨k1,k2,k3⟩:=k.1 rfl
   have:=(h.2 rfl).2 js k1 k2;omega
 · obtain ⟨k1,k2,k3⟩:=h.1 rfl
   have:=(k.2 rfl).2 is k1 k2;omega
 obtain ⟨k1,k2,k3⟩:=k.1 rfl;obtain ⟨h1,h2,h3⟩:=h.1 rfl;exact ⟨Ce (jc h1) (jc k1) (h2.trans k2.symm),rfl⟩
def Way (l:List UInt8) (is:List M3) (r:List UInt8):Prop:=l=is.flatMap I7++r/\is.all Z9=true
theorem sj (l:List UInt8):Way l [] l:=⟨rfl,rfl⟩
theorem Ll (h:Way l is (a++10::r)) (hx:Z9 x=true/\a=Ha x):Way l (is++[x]) r:=by
 refine ⟨?_,by rw [List.all_append,h.2];simp [hx.1]⟩;rw [h.1,List.flatMap_append,hx.2];simp [R8]
theorem Ig (h:Way l is r) (hr:r≠[]) (hn:∀ y q,Z9 y=true->r≠Ha y++10::q):l9 l [] false:=by
 refine ⟨(fun h=>by cases h),fun _=>⟨rfl,fun js hj e=>?_⟩⟩;exfalso;obtain ⟨q,hq,hl⟩:=He h.2 (jc hj) (h.1.symm.trans e.symm)
 cases q with
 | nil=>exact hr hq
 | cons y q=>
  have hy:Z9 y=true:=by
   have:=(jc hj);rw [hl,List.all_append,List.all_cons] at this;simp only [Bool.and_eq_true] at this;exact this.2.1
  apply hn y (q.flatMap I7) hy;rw [hq,List.flatMap_cons,R8,List.append_assoc];rfl
theorem zo (h:Way l is []) (KL:l.length<=300):(d_ is=true->l9 l is true)/\(d_ is=false->l9 l [] false):=by
 have e:l=is.flatMap I7:=by simpa using h.1
 refine ⟨fun hk=>⟨fun _=>⟨hk,e.symm,KL⟩,(fun h=>by cases h)⟩,fun hk=>⟨(fun h=>by cases h),fun _=>⟨rfl,fun js hj ej=>?_⟩⟩⟩;have:=Ce (jc hj) h.2 (ej.trans e);rw [this,hk] at hj;cases hj
theorem Be (h:300<l.length):l9 l [] false:=⟨(fun h=>by cases h),fun _=>⟨rfl,fun _ _ _=>h⟩⟩
theorem Xo (h:ms.all Z9=true) (hi:i<ms.length):Z9 (ms.getD i X6)=true:=by
 rw [List.getD,List.getElem?_eq_getElem hi];exact List.all_eq_true.1 h _ (List.getElem_mem hi)
theorem Hz (h:Z9 x=true):x.le 300:=by
 obtain ⟨h1,h2,h3⟩:=Ki h;exact ⟨O0,O0,h3⟩
theorem vo (h:Way l is r):is.length+r.length<=l.length/\∀ i,(is.getD i X6).le 300:=by
 have h1:=ug is;have h2:=congrArg List.length h.1;rw [List.length_append] at h2;exact ⟨O0,Vj fun i hi=>Hz (Xo h.2 hi)⟩
def F5 (is:List M3):List Value:=is.flatMap fun x=>[.string x.nm,.string x.tl,.string x.ar]
theorem Ef (is:List M3) (x:M3):F5 (is++[x])=F5 is++[.string x.nm,.string x.tl,.string x.ar]:=by simp [F5]
theorem Ir (is:List M3) (i:Nat) (h:i<is.length):(F5 is)[i*3]?=some (.string (is.getD i X6).nm)/\(F5 is)[i*3+1]?=some (.string (is.getD i X6).tl)/\(F5 is)[i*3+2]?=some (.string (is.getD i X6).ar):=by
 induction is generalizing i with
 | nil=>simp at h
 | cons x r ih=>
  cases i with
  | zero=>exact ⟨rfl,rfl,rfl⟩
  | succ i=>
   have:=ih i (by simpa using h);have e:∀ j,(F5 (x::r))[(i+1)*3+j]?=(F5 r)[i*3+j]?:=fun j=>by
    show ([Value.string x.nm,.string x.tl,.string x.ar]++F5 r)[(i+1)*3+j]?=_;rw [List.getElem?_append_right X3]
    congr 1
    simp;omega
   have e0:=e 0;simp only [Nat.add_zero] at e0;rw [e0,e 1,e 2];exact this
theorem U6 {w:World} {v:Value} (h:w.ownsRow base 35 3 v is.length (F5 is)):∃ a cap,v=.slice a is.length cap/\Ab w a is:=by
 have h':=h;rcases h.2 with ⟨hv,h0⟩ | ⟨g,cap,cur,hv,hg,hh,_⟩
 · exact ⟨none,0,by rw [hv,h0],.inl (List.length_eq_zero_iff.1 h0)⟩
 refine ⟨some ⟨g,0,none⟩,cap,hv,?_⟩;subst hv;refine .inr ⟨g,0,rfl,F4 hh,fun i hi=>?_⟩;obtain ⟨e0,e1,e2⟩:=Ir is i hi;rw [Nat.zero_add,h'.cellAt _ O0,h'.cellAt _ O0,h'.cellAt _ O0];exact ⟨e0,e1,e2⟩
theorem Rj (js:List M3) (hj:js.all Z9=true) (o:List (List UInt8)):(js.flatMap I7).foldl (cst 10) (o,[])=(o++js.map Ha,[]):=by
 induction js generalizing o with
 | nil=>simp
 | cons x r ih=>
  simp only [List.all_cons,Bool.and_eq_true] at hj;rw [List.flatMap_cons,List.foldl_append,R8,Yr _ _ (N_ hj.1)];simp only [List.nil_append];rw [ih hj.2];simp
theorem Je (js:List M3) (hj:js.all Z9=true):Z6 10 (js.flatMap I7)=js.map Ha++[[]]:=by
 unfold Z6 E5;rw [Rj js hj];simp
def Wd (l:List UInt8) (x:M3):Prop:=∀ y,Z9 y=true->l=Ha y->x=y
theorem parsed (ht:∀ q,E_ l 3=J4 q->t=q):Wd l ⟨K3 (U1 (E_ l 1)),K3 (U1 (E_ l 2)),K3 t⟩:=by
 intro y hy e;obtain ⟨h1,h2,_⟩:=Ie hy;have r1:E_ l 1=Jc y:=((Vo hy).1 e).2;rw [Qb] at r1;have w1:=K5 (r:=y.tl.data.toList++32::J4 y.ar.data.toList) (Rb h1).1;have r2:E_ l 2=y.tl.data.toList++32::J4 y.ar.data.toList:=by show Z0 (E_ l 1)=_;rw [r1];exact w1.2
 have w2:=K5 (r:=J4 y.ar.data.toList) (Rb h2).1;have r3:E_ l 3=J4 y.ar.data.toList:=by show Z0 (E_ l 2)=_;rw [r2];exact w2.2
 have:=ht _ r3;subst this;rw [r1,r2,w1.1,w2.1];rfl
def lg (S:List UInt8) (is:List M3) (k:Nat):Prop:=∀ js:List M3,js.all Z9=true->js.flatMap I7=S->is=js.take k
theorem Zf (S:List UInt8):lg S [] 0:=fun _ _ _=>rfl
theorem Cb (h:lg S is k) (hk:k+1<(Z6 10 S).length) (hp:Wd ((Z6 10 S).getD k []) x):lg S (is++[x]) (k+1):=by
 intro js hj e;have h1:=h js hj e;have hc:=Je js hj;rw [e] at hc;rw [hc] at hk hp;simp only [List.length_append,List.length_map,List.length_cons,List.length_nil] at hk;have hkl:k<js.length:=O0;have hg:(js.map Ha++[[]]).getD k []=Ha js[k]:=by
  simp only [List.getD,List.getElem?_append_left (show k<(js.map Ha).length by simpa using hkl),List.getElem?_map,List.getElem?_eq_getElem hkl];rfl
 rw [hg] at hp;have hok:=(List.all_eq_true.1 hj) _ (List.getElem_mem hkl);rw [h1,hp js[k] hok rfl,<- List.take_succ_eq_append_getElem hkl]
theorem Oj (h:lg S is k) (hkl:is.length=k) (hk:k+1=(Z6 10 S).length) (KL:S.length<=300):(Ka is=S->l9 S is true)/\(Ka is≠S->l9 S [] false):=by
 constructor
 · intro h2
   unfold Ka at h2;by_cases hc:d_ is=true/\(is.flatMap I7).length<=300
   · rw [if_pos hc] at h2
     exact ⟨fun _=>⟨hc.1,h2,KL⟩,(fun h=>by cases h)⟩
   rw [if_neg hc] at h2;subst h2;have:k=0:=by simpa [Z6,E5] using hk
   have:is=[]:=List.length_eq_zero_iff.1 O0;subst this;exact absurd ⟨rfl,U0⟩ hc
 intro hn;refine ⟨(fun h=>by cases h),fun _=>⟨rfl,fun js hj e=>?_⟩⟩;exfalso;apply hn;have hall:=jc hj;have h1:=h js hall e;have hc:=Je js hall;rw [e] at hc;rw [hc] at hk;simp only [List.length_append,List.length_map,List.length_cons,List.length_nil] at hk;rw [List.take_of_length_le O0] at h1;subst h1;unfold Ka;rw [if_pos ⟨hj,by rw [e];exact KL⟩,e]
def Dp (l:List UInt8) (x:M3) (ok:Bool):Prop:=(ok=true->Z9 x=true/\l=Jc x)/\(ok=false->∀ y,Z9 y=true->l≠Jc y)
theorem oz (h:∀ y,Z9 y=true->l≠Jc y):Dp l x false:=⟨(fun h=>by cases h),fun _=>h⟩
theorem Cj (hy:Z9 y=true) (h:l=Jc y):((32:UInt8)∈l/\(32:UInt8)∈Z0 l)/\U1 l=y.nm.data.toList/\U1 (Z0 l)=y.tl.data.toList/\Z0 (Z0 l)=J4 y.ar.data.toList:=by
 obtain ⟨h1,h2,_⟩:=Ie hy;rw [Qb] at h;have w1:=K5 (r:=y.tl.data.toList++32::J4 y.ar.data.toList) (Rb h1).1;have w2:=K5 (r:=J4 y.ar.data.toList) (Rb h2).1;rw [h,w1.1,w1.2,w2.1,w2.2];exact ⟨⟨U0,U0⟩,rfl,rfl,rfl⟩
theorem Bq {ok:Bool} (hm:(32:UInt8)∈l) (hm2:(32:UInt8)∈Z0 l) (hu:(ok=true->Z0 (Z0 l)=J4 t)/\(ok=false->∀ q,Z0 (Z0 l)≠J4 q)):
 (ok=true->Z9 ⟨K3 (U1 l),K3 (U1 (Z0 l)),K3 t⟩=true->Dp l ⟨K3 (U1 l),K3 (U1 (Z0 l)),K3 t⟩ true)/\(¬ (ok=true/\Z9 ⟨K3 (U1 l),K3 (U1 (Z0 l)),K3 t⟩=true)->∀ y,Z9 y=true->l≠Jc y):=by
 constructor
 · intro h1 h2
   refine ⟨fun _=>⟨h2,?_⟩,(fun h=>by cases h)⟩;rw [Qb];show l=U1 l++32::(U1 (Z0 l)++32::J4 t);rw [<- hu.1 h1,<- (Y8 hm2).1,<- (Y8 hm).1]
 intro hn y hy e;obtain ⟨_,e1,e2,e3⟩:=Cj hy e;apply hn;cases ok
 · exact absurd e3 (hu.2 rfl _)
 refine ⟨rfl,?_⟩;have:t=y.ar.data.toList:=Re ((hu.1 rfl).symm.trans e3);rw [this,e1,e2];exact hy
def vH (is:List M3) (e:Ending):Prop:=
 (d_ is=true/\e=.returned .nilIface)\/(d_ is=false/\∃ n ty va,e=.returned (.iface 187 (.agg #[.int .i64 n,.iface ty va])))
theorem dJ (a:Option Addr) (cap:Nat) (is:List M3) (w:World) (hs:∀ i,(is.getD i X6).le 1048576) (hl:is.length<=1048576) (hat:Ab w a is) (t0 t1 t2:TypeId) (v0 v1 v2:Value) (h0g:w.cell? ⟨7,0,none⟩=some (.iface t0 v0)) (h1g:w.cell? ⟨8,0,none⟩=some (.iface t1 v1)) (h2g:w.cell? ⟨9,0,none⟩=some (.iface t2 v2)):
 Calls prog 144 #[.slice a is.length cap] w fun e w'=>vH is e/\Below w.heap.size w w':=by
 have h3z:9<w.heap.size:=by
  rcases Nat.lt_or_ge 9 w.heap.size with h | h
  · exact h
  simp [World.cell?,Array.getElem?_eq_none h] at h2g
 obtain ⟨b,off,hc⟩:=qd hat;have HC:=Q0 hc;clear hc hat;go_enter func144,ntmps144
 go_wp2_with fail
 go_loopw [7] (fun i wr=>∃ (k:Nat),k<=is.length/\k<=30/\i=.int .i64 k/\Below w.heap.size w wr/\Hid (∀ j,j<k->D_ is j=true)) (fun i _=>is.length - (intOf i).toNat)
 case atStart=>exact ⟨0,Nat.zero_le _,Nat.zero_le _,rfl,Below.refl _ _,fun j h=>absurd h (Nat.not_lt_zero _)⟩
 obtain ⟨k,hk,a3X,rfl,hb,hdone⟩:=hrel;by_cases hlt:k<is.length;rotate_left
 · have hp:Hid (∀ _:is.length<=30,d_ is=true):=fun h=>(Gc is).2 ⟨h,fun j hj=>hdone.out j O0⟩
   have h31:Hid (is.length<=30):=by show is.length<=30;omega
   go_wp2;go_ret;exact ⟨.inl ⟨hp.out h31.out,rfl⟩,hb⟩
 rcases HC.out with hss | ⟨ha,hbw,hcell⟩
 · rw [hss] at hlt;exact absurd hlt (Nat.not_lt_zero _)
 subst ha;have HB:=Q0 hb;have g0:=(hb.cell (p:=⟨b,off+k*3,none⟩) hbw).trans (hcell k hlt).1;have g1:=(hb.cell (p:=⟨b,off+k*3+1,none⟩) hbw).trans (hcell k hlt).2.1;have g2:=(hb.cell (p:=⟨b,off+k*3+2,none⟩) hbw).trans (hcell k hlt).2.2;have hsx:Hid ((is.getD k X6).le 1048700):=⟨Nat.le_trans (hs k).1 O0,Nat.le_trans (hs k).2.1 O0,Nat.le_trans (hs k).2.2 O0⟩;have EU:=Nat.lt_of_lt_of_le hbw hb.size;by_cases h30:k=30
 · have HN:Hid (d_ is=false):=by
    cases hp:d_ is
    · rfl
    have:=((Gc is).1 hp).1;omega
   subst h30;have q0:=(World.cell?_alloc_lt wr (.cells #[.string (is.getD 30 X6).nm,.string (is.getD 30 X6).tl,.string (is.getD 30 X6).ar] 35) ⟨7,0,none⟩ (Nat.lt_of_lt_of_le (by show 7<w.heap.size;omega) hb.size)).trans ((hb.cell (p:=⟨7,0,none⟩) (by show 7<w.heap.size;omega)).trans h0g);clear hcell;generalize is.getD 30 X6=x at*;go_wp2;go_ret;exact ⟨.inr ⟨HN.out,_,_,_,rfl⟩,HB.out.alloc HB.out.size _⟩
 rcases Nat.eq_zero_or_pos k with h0 | h0
 · subst h0
   have HS:Hid (D_ is 0=Z9 (is.getD 0 X6)):=by simp [D_,Hid]
   simp only [Nat.zero_mul,Nat.add_zero] at g0 g1 g2;generalize is.getD 0 X6=x at*;clear hcell hb
   go_wp2_with fail
   refine (qI x _ hsx.out).mono ?_;rintro e w1 ⟨rfl,hb1⟩;have HB2:=Q0 ((HB.out.alloc HB.out.size _).trans (hb1.mono (by simp;exact Nat.le_succ_of_le HB.out.size)));have m0:=(hb1.cell (p:=⟨wr.heap.size,0,none⟩) U0).trans (show (wr.alloc (.cells #[.string x.nm,.string x.tl,.string x.ar] 35)).cell? ⟨wr.heap.size,0,none⟩=some (.string x.nm) by simp);have q0:=(HB2.out.cell (p:=⟨7,0,none⟩) (by show 7<w.heap.size;omega)).trans h0g;have q1:=(HB2.out.cell (p:=⟨8,0,none⟩) (by show 8<w.heap.size;omega)).trans h1g;have q2:=(HB2.out.cell (p:=⟨9,0,none⟩) (by show 9<w.heap.size;omega)).trans h2g;clear hb1 g0 g1 g2;cases hx:Z9 x
   · rw [hx] at HS
     go_wp2;go_ret;exact ⟨.inr ⟨Si hlt HS.out,_,_,_,rfl⟩,HB2.out⟩
   go_wp2_with fail
   refine wp_region_held_drew (S:=(fun u=>u.cell? ⟨wr.heap.size,0,none⟩=some (.string x.nm))) I1 ?_ fun hH=>?_
   · ((try dsimp only);go_keep)
   refine tq 0 hH ?_;refine tq 1 hH ?_
   try simp only [qq]
   refine tq 2 hH ?_;refine uq 3 hH ?_
   try simp only [qq]
   refine uq 4 hH ?_;refine uq 5 hH ?_
   try simp only [qq]
   refine uq 6 hH ?_;refine uq 7 hH ?_
   try simp only [qq]
   refine uq 8 hH ?_;refine uq 9 hH ?_
   try simp only [qq]
   refine uq 10 hH ?_;refine uq 11 hH ?_
   try simp only [qq]
   refine tq 12 hH ?_;refine tq 13 hH ?_
   try simp only [qq]
   refine wpAnyH_done I1 ?_ _;rw [hx] at HS;clear hH;have hd':Hid (∀ j,j<0+1->D_ is j=true):=fun j hj=>by
    rcases Nat.lt_or_ge j 0 with h | h
    · exact hdone.out j h
    obtain rfl:j=0:=O0;exact HS.out
   go_wp2;go_roundw
   case rel=>exact ⟨0+1,O0,O0,by go_num,HB2.out.drew,hd'⟩
   case measure=>simp [intOf];omega
 obtain ⟨q,hq⟩:∃ q,q+1=k:=⟨k - 1,O0⟩;have g3':=(hb.cell (p:=⟨b,off+q*3,none⟩) hbw).trans (hcell q O0).1;have HS:Hid (D_ is k=(Z9 (is.getD k X6)&&Op.bytesLess (is.getD q X6).nm.toList (is.getD k X6).nm.toList)):=by
  have e1:decide (k=0)=false:=decide_eq_false O0;have e2:k - 1=q:=O0;unfold D_;rw [e1,e2];rfl
 have hm0:(0:Int)<(k:Int):=O0;have hm1:=decide_eq_true hm0;generalize is.getD k X6=x at*;generalize is.getD q X6=y at*;have hwr:IntKind.i64.wrap ((k:Int) - 1)=(q:Int):=by rw [show (k:Int) - 1=(q:Int) by omega];exact ni q O0
 have YQ:(q:Int)<(is.length:Int):=O0;clear hq;clear hcell hb
 go_wp2_with fail
 refine (qI x _ hsx.out).mono ?_;rintro e w1 ⟨rfl,hb1⟩;have HB2:=Q0 ((HB.out.alloc HB.out.size _).trans (hb1.mono (by simp;exact Nat.le_succ_of_le HB.out.size)));have m0:=(hb1.cell (p:=⟨wr.heap.size,0,none⟩) U0).trans (show (wr.alloc (.cells #[.string x.nm,.string x.tl,.string x.ar] 35)).cell? ⟨wr.heap.size,0,none⟩=some (.string x.nm) by simp);have g3:=(hb1.cell (p:=⟨b,off+q*3,none⟩) X3).trans ((World.cell?_alloc_lt _ _ ⟨b,off+q*3,none⟩ EU).trans g3');clear g3';have q0:=(HB2.out.cell (p:=⟨7,0,none⟩) (by show 7<w.heap.size;omega)).trans h0g;have q1:=(HB2.out.cell (p:=⟨8,0,none⟩) (by show 8<w.heap.size;omega)).trans h1g;have q2:=(HB2.out.cell (p:=⟨9,0,none⟩) (by show 9<w.heap.size;omega)).trans h2g;clear hb1 g0 g1 g2;cases hx:Z9 x
 · have HS:Hid (D_ is k=false):=by rw [HS.out,hx];rfl
   go_wp2;go_ret;exact ⟨.inr ⟨Si hlt HS.out,_,_,_,rfl⟩,HB2.out⟩
 cases hy:Op.bytesLess y.nm.toList x.nm.toList
 · go_wp2_with fail
   refine wp_region_held_drew (S:=(fun u=>u.cell? ⟨wr.heap.size,0,none⟩=some (.string x.nm)/\u.cell? ⟨b,off+q*3,none⟩=some (.string y.nm))) I1 ?_ fun hH=>?_
   · ((try dsimp only);go_keep)
   refine tq 0 hH ?_;refine tq 1 hH ?_
   try simp only [qq]
   refine tq 2 hH ?_;refine tq 3 hH ?_
   try simp only [qq]
   refine tq 4 hH ?_;refine tq 5 hH ?_
   try simp only [qq]
   refine tq 6 hH ?_;refine tq 7 hH ?_
   try simp only [qq]
   refine tq 8 hH ?_;refine tq 9 hH ?_
   try simp only [qq]
   refine tq 10 hH ?_;refine tq 11 hH ?_
   try simp only [qq]
   refine tq 12 hH ?_;refine tq 13 hH ?_
   try simp only [qq]
   refine wpAnyH_done I1 ?_ _;rw [hx,hy] at HS;clear hH;go_wp2;go_ret;exact ⟨.inr ⟨Si hlt HS.out,_,_,_,rfl⟩,HB2.out.drew⟩
 go_wp2_with fail
 refine wp_region_held_drew (S:=(fun u=>u.cell? ⟨wr.heap.size,0,none⟩=some (.string x.nm)/\u.cell? ⟨b,off+q*3,none⟩=some (.string y.nm))) I1 ?_ fun hH=>?_
 · ((try dsimp only);go_keep)
 refine tq 0 hH ?_;refine tq 1 hH ?_
 try simp only [qq]
 refine tq 2 hH ?_;refine tq 3 hH ?_
 try simp only [qq]
 refine tq 4 hH ?_;refine tq 5 hH ?_
 try simp only [qq]
 refine tq 6 hH ?_;refine tq 7 hH ?_
 try simp only [qq]
 refine tq 8 hH ?_;refine tq 9 hH ?_
 try simp only [qq]
 refine tq 10 hH ?_;refine tq 11 hH ?_
 try simp only [qq]
 refine tq 12 hH ?_;refine tq 13 hH ?_
 try simp only [qq]
 refine wpAnyH_done I1 ?_ _;rw [hx,hy] at HS;clear hH;have hd':Hid (∀ j,j<k+1->D_ is j=true):=fun j hj=>by
  rcases Nat.lt_or_ge j k with h | h
  · exact hdone.out j h
  obtain rfl:j=k:=O0;exact HS.out
 go_wp2;go_roundw
 case rel=>exact ⟨k+1,O0,O0,by go_num,HB2.out.drew,hd'⟩
 case measure=>simp [intOf];omega
end Go.Proofs.YtdpoaadafcaffaaGreatDoor.G
