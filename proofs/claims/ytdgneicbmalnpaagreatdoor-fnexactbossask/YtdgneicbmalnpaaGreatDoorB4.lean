import Derived.Test.YtdgneicbmalnpaaGreatDoorSH
set_option linter.all false
set_option maxHeartbeats 0
set_option maxRecDepth 99999
open Go.Value renaming slice->Sa,string->Sb,int->Sc,pointer->Sd
open Go.IntKind renaming i64->Se
open Go.Ending renaming returned->Sf
namespace Go.Proofs.YtdgneicbmalnpaaGreatDoor
open Proofs.Tryz Go.RowKit
variable{l:List UInt8}
def Y6(s:BY)(n:Int):BY:=if 1<=n/\n<=8 then strOfNums (outs (hsum s.data.toList) n.toNat) else ByteArray.empty
theorem ZK(n l h:Int)(w:World):
 Calls prog 60 #[Sc Se n,Sc Se l,Sc Se h] w λe w'=>e=Sf (.bool (decide (l<=n/\n<=h)))/\w'=w:=by
 by_cases h1:l<=n<;>by_cases h2:n<=h
 all_goals
  go_in
  go_wp2
  all_goals go_ret
  all_goals exact⟨by simp[*],rfl⟩
theorem c59(n:Int)(w:World):
 Calls prog 59 #[Sc Se n] w λe w'=>e=Sf (.bool (decide (1<=n/\n<=8)))/\w'=w:=by
 go_in
 go_wp2_with(go_at_call 60;refine(ZK _ _ _ _).mono ?_;rintro e w'⟨rfl,rfl⟩)
 go_ret;exact⟨J4,rfl⟩
theorem JY(n:Int)(w:World):
 Calls prog 161 #[Sc Se n] w λe w'=>e=Sf (.bool (decide (1<=n/\n<=8)))/\w'=w:=by
 by_cases h1:1<=n<;>by_cases h2:n<=8
 all_goals
  go_in
  go_wp2
  all_goals go_ret
  all_goals exact⟨by simp[*],rfl⟩
theorem NC(s:BY)(n:Int)(w:World)(hs:s.size<=1048700):
 Calls prog 253 #[Sb s,Sc Se n] w λe w'=>e=Sf (Sb (Y6 s n))/\Bw w w':=by
 by_cases h:1<=n/\n<=8
 ·have hd:decide (1<=n/\n<=8)=true:=by simpa using h
  have hx:=Pj s.data.toList;obtain⟨k,rfl⟩:=ZR (show 0<=n by omega);have a:Hid (Y6 s k=strOfNums (outs (hsum s.data.toList) k)):=by unfold Y6;rw[if_pos h];rfl
  go_in
  go_wp2_with fail
  refine(c59 _ _).mono ?_;rintro e w'⟨rfl,rfl⟩;rw[hd]
  go_wp2_with fail
  refine(a5y _ _ hs).mono ?_;rintro e w'⟨rfl,rfl⟩
  go_wp2_with fail
  refine(a4K _ _ _ hx.1 hx.2 O0).mono ?_;rintro e w'⟨rfl,b⟩;go_wp2;go_ret;exact⟨by rw[a.o];rfl,b⟩
 have hd:decide (1<=n/\n<=8)=false:=by simpa using h
 have a:Hid (Y6 s n=ByteArray.empty):=by unfold Y6;rw[if_neg h];rfl
 go_in
 go_wp2_with fail
 refine(c59 _ _).mono ?_;rintro e w'⟨rfl,rfl⟩;rw[hd];go_wp2;go_ret;exact⟨by rw[a.o];rfl,O4 _ _⟩
theorem a6e(u:World)(b k:Nat)(h1:1<=k)(h2:k<=8):
 (Instr.sliceAt 350 (Sd (some ⟨b,0,none⟩)) (some (Sc Se (8-(k:Int)))) none none).run prog u=.ok (Sa (some ⟨b,8-k,none⟩) k k) u:=by
 obtain rfl|rfl|rfl|rfl|rfl|rfl|rfl|rfl:k=1\/k=2\/k=3\/k=4\/k=5\/k=6\/k=7\/k=8:=O0
 all_goals kernel_rfl
theorem a2y(u:World)(X:Int)(k:Nat)(h2:k<=8):
 (convert 211 9 (Sa (some ⟨u.heap.size,8-k,none⟩) k k)).run prog (u.alloc (.cells #[.int .u8 (kc X k 0),.int .u8 (kc X k 1),.int .u8 (kc X k 2),.int .u8 (kc X k 3),.int .u8 (kc X k 4),.int .u8 (kc X k 5),.int .u8 (kc X k 6),.int .u8 (kc X k 7)] 350))
  =.ok (Sb (strOfNums (outs X k))) (u.alloc (.cells #[.int .u8 (kc X k 0),.int .u8 (kc X k 1),.int .u8 (kc X k 2),.int .u8 (kc X k 3),.int .u8 (kc X k 4),.int .u8 (kc X k 5),.int .u8 (kc X k 6),.int .u8 (kc X k 7)] 350)):=
 run_convert_bytes_arg _ 211 5 underlying211 underlying5 _ (8-k) k k (outs X k) (jq X k) (λi b=>by
  rw[<- fZ X k i h2 b];have a:8-k+i<8:=O0;generalize 8-k+i=j at a ⊢;obtain rfl|rfl|rfl|rfl|rfl|rfl|rfl|rfl:j=0\/j=1\/j=2\/j=3\/j=4\/j=5\/j=6\/j=7:=O0
  all_goals simp) 9 underlying9
theorem uJ(s:BY)(n:Int)(w:World)(hs:s.size<=1048700):
 Calls prog 215 #[Sb s,Sc Se n] w λe w'=>e=Sf (Sb (Y6 s n))/\Bw w w':=by
 by_cases h:1<=n/\n<=8
 ·have hd:decide (1<=n/\n<=8)=true:=by simpa using h
  have hx:=Pj s.data.toList;obtain⟨k,rfl⟩:=ZR (show 0<=n by omega);have a:Hid (Y6 s k=strOfNums (outs (hsum s.data.toList) k)):=by unfold Y6;rw[if_pos h];rfl
  go_in
  go_wp2_with fail
  refine(JY _ _).mono ?_;rintro e w'⟨rfl,rfl⟩;rw[hd]
  go_wp2_with fail
  refine(a5f _ _ _ O0 hs).mono ?_;rintro e w'⟨⟨X,d,rfl⟩,c⟩;have f:=U0 d;clear d;have g1:=λ(u:World) (b:Nat)=>a6e u b k O0 O0;have g2:=λ(u:World)=>a2y u X k O0;go_wp2;go_ret;exact⟨by rw[a.o,<- f.o];rfl,c.alloc c.size _⟩
 have hd:decide (1<=n/\n<=8)=false:=by simpa using h
 have a:Hid (Y6 s n=ByteArray.empty):=by unfold Y6;rw[if_neg h];rfl
 go_in
 go_wp2_with fail
 refine(JY _ _).mono ?_;rintro e w'⟨rfl,rfl⟩;rw[hd];go_wp2;go_ret;exact⟨by rw[a.o];rfl,O4 _ _⟩
theorem Z9{a b:Bool}(h:a=b):Sf (.bool a)=Sf (.bool b):=by rw[h]
theorem Ee(p:UInt8->Bool)(s:BY)(k:Nat)(h:k<s.size)(ha:(s.data.toList.take k).all p=true)(a:p s[k]=true):(s.data.toList.take (k+1)).all p=true:=by
 rw[take_snoc s k h,jr,ha];simpa using a
theorem Ef(p:UInt8->Bool)(s:BY)(k:Nat)(h:k<s.size)(a:p s[k]=false):s.data.toList.all p=false:=by
 rw[List.all_eq_false];exact⟨s[k],by simp[iK],by simp[a]⟩
theorem He(p:UInt8->Bool)(s:BY)(k:Nat)(h:s.size<=k)(ha:(s.data.toList.take k).all p=true):s.data.toList.all p=true:=by
 rwa[p_ (by simpa using h)]at ha
theorem vC(s:BY)(h:¬(1<=s.size/\s.size<=20)):Y5 s.data.toList=false:=by
 unfold Y5;have:(decide (1<=s.data.toList.length/\s.data.toList.length<=20))=false:=by
  simp only[Xu];simpa using h
 rw[this];rfl
theorem OE(s:BY)(h:1<=s.size/\s.size<=20):Y5 s.data.toList=s.data.toList.all Il:=by
 unfold Y5;have:(decide (1<=s.data.toList.length/\s.data.toList.length<=20))=true:=by
  simp only[Pe];simpa using h
 rw[this];rfl
theorem c80(s:BY)(w:World)(hs:s.size<=1048700):
 Calls prog 80 #[Sb s] w λe w'=>e=Sf (.bool (Y5 s.data.toList))/\w'=w:=by
 by_cases h:1<=s.size/\s.size<=20
 ·have b:=U0 (OE s h);obtain⟨h1,h2⟩:=h
  go_in
  go_wp2;go_loop[14] (λi=>∃k:Nat,k<=s.size/\i=Sc Se k/\Hid ((s.data.toList.take k).all Il=true)) (λi=>s.size-(RowKit.intOf i).toNat);exact⟨0,Y4 _,rfl,rfl⟩;obtain⟨k,hk,rfl,ha⟩:=hrel;by_cases d:k<s.size
  ·by_cases a:Il s[k]=true
   ·have f:=(Yr _).1 a;have g:=Hid.o ha;have j:=U0 (Ee _ s k d ha.o a);clear a g;go_wp2
    go_round
    exact⟨k+1,O0,by go_num,j⟩;exact V9
   have hf:=U0 (Ef _ s k d (by simpa using a));have f:(s[k].toNat:Int)<33\/126<(s[k].toNat:Int):=by
    rcases Xo (s[k].toNat:Int) 33 with h|h
    ·exact .inl h
    rcases Xo 126 (s[k].toNat:Int)with c|c
    ·exact .inr c
    exact absurd ((Yr _).2 ⟨h,c⟩) a
   clear a;rcases f with a|a
   all_goals
    go_wp2
    all_goals go_ret
    all_goals exact⟨Z9 (by rw[b.o,hf.o]),rfl⟩
  go_wp2;go_ret;exact⟨Z9 (by rw[b.o,He _ s k O0 ha.o]),rfl⟩
 have b:=U0 (vC s h);by_cases h1:1<=s.size
 all_goals
  go_in
  go_wp2
  all_goals go_ret
  all_goals exact⟨Z9 (by rw[b.o]),rfl⟩
theorem c21(s:BY)(w:World)(hs:s.size<=1048700):
 Calls prog 21 #[Sb s] w λe w'=>e=Sf (.bool (Y5 s.data.toList))/\w'=w:=by
 by_cases h:1<=s.size/\s.size<=20
 ·have b:=U0 (OE s h);have hd:decide ((1:Int)<=(s.size:Int)/\(s.size:Int)<=20)=true:=L8
  go_in
  go_wp2_with fail
  refine(ZK _ _ _ _).mono ?_;rintro e w'⟨rfl,rfl⟩;rw[hd];go_wp2;go_loop[3] (λi=>∃k:Nat,k<=s.size/\i=Sc Se k/\Hid ((s.data.toList.take k).all Il=true)) (λi=>s.size-(RowKit.intOf i).toNat);exact⟨0,Y4 _,rfl,rfl⟩;obtain⟨k,hk,rfl,ha⟩:=hrel;by_cases d:k<s.size
  ·by_cases a:Il s[k]=true
   ·have f:=(Yr _).1 a;have g:=U0 (Ee _ s k d ha.o a);clear a;go_wp2
    go_round
    exact⟨k+1,O0,by go_num,g⟩;exact V9
   have hf:=U0 (Ef _ s k d (by simpa using a));have f:(s[k].toNat:Int)<33\/126<(s[k].toNat:Int):=by
    rcases Xo (s[k].toNat:Int) 33 with h|h
    ·exact .inl h
    rcases Xo 126 (s[k].toNat:Int)with c|c
    ·exact .inr c
    exact absurd ((Yr _).2 ⟨h,c⟩) a
   clear a;rcases f with a|a
   all_goals
    go_wp2
    all_goals go_ret
    all_goals exact⟨Z9 (by rw[b.o,hf.o]),rfl⟩
  go_wp2;go_ret;exact⟨Z9 (by rw[b.o,He _ s k O0 ha.o]),rfl⟩
 have b:=U0 (vC s h);have hd:decide ((1:Int)<=(s.size:Int)/\(s.size:Int)<=20)=false:=by simp only[Xu];omega
 go_in
 go_wp2_with fail
 refine(ZK _ _ _ _).mono ?_;rintro e w'⟨rfl,rfl⟩;rw[hd];go_wp2;go_ret;exact⟨Z9 (by rw[b.o]),rfl⟩
theorem Jp(s:BY)(h:1<=s.size):s.data.toList.isEmpty=false:=by
 cases hl:s.data.toList with
 | nil=>
  have:s.data.toList.length=s.size:=J4;rw[hl]at this;simp at this;omega
 | cons a r=>rfl
theorem Vb{a b:Int}{x y:Bool}(h:a=b)(c:x=y):Sf (.tuple #[Sc Se a,.bool x])=Sf (.tuple #[Sc Se b,.bool y]):=by rw[h,c]
def bU(l:List UInt8):Int:=if Xe l=true then val l else 0
theorem ji(l:List UInt8):Nc l=true↔l≠[]/\(l.headD 0=48->l=[48]):=by
 cases l with
 | nil=>simp[Nc]
 | cons a r=>
  by_cases h:a=48
  ·simp[Nc,h]
  simp[Nc,h]
theorem ZG(h:Nc l=false):Xe l=false:=by simp[Xe,h]
theorem EM(h:l.all B_=false):Xe l=false:=by simp only[Xe,h,ay,MJ]
theorem qW(k:Nat)(h:40<val (l.take k)):Xe l=false:=by
 by_cases ha:l.all B_=true
 ·have:=Qp l ha k;have hd:decide (val l<=40)=false:=by simp only[Xu];omega
  simp only[Xe,hd,ay]
 exact EM (by simpa using ha)
theorem qM(h1:Nc l=true)(h2:l.all B_=true)(a:val l<=40):Xe l=true:=by
 have hd:decide (val l<=40)=true:=by simpa using a
 simp only[Xe,h1,h2,hd,zK]
theorem xN(h:Xe l=false):bU l=0:=by simp[bU,h]
theorem a0A(h:Xe l=true):bU l=val l:=by simp[bU,h]
theorem Ns(s:BY)(h:0<s.size):s.data.toList.headD 0=s[0]:=by
 have e:s.data.toList=s[0]::s.data.toList.tail:=by
  have hl:s.data.toList.length=s.size:=J4
  cases hd:s.data.toList with
  | nil=>rw[hd]at hl;simp at hl;omega
  | cons a r=>
   simp only[List.tail_cons]
   congr 1
   have:s[0]=s.data.toList[0]'(by simpa using h):=by simp[iK]
   rw[this];simp[hd]
 rw[e];rfl
theorem Zq(c:UInt8)(h:48<=(c.toNat:Int)/\(c.toNat:Int)<=57):IntKind.u8.wrap ((c.toNat:Int)-48)=(c.toNat:Int)-48:=by
 simp[IntKind.wrap,IntKind.signed,IntKind.bits];omega
theorem a6l(s:BY)(w:World)(hs:s.size<=1048700):
 Calls prog 257 #[Sb s,Sc Se 40] w λe w'=>e=Sf (.tuple #[Sc Se (bU s.data.toList),.bool (Xe s.data.toList)])/\w'=w:=by
 by_cases h0:s.size=0
 ·have e0:s.toList=[]:=by
   rw[ByteArray.toList_eq];exact Xb.1 (by simpa using h0)
  have a:Hid (Xe s.data.toList=false):=ZG (by rw[<- ByteArray.toList_eq,e0];rfl)
  go_in
  go_wp2;go_ret2;exact⟨Vb (xN a.o).symm a.o.symm,rfl⟩
 have e0:s.toList.isEmpty=false:=by rw[ByteArray.toList_eq];exact Jp s O0
 have e1:¬s.toList=[]:=λh=>by rw[h]at e0;cases e0
 have p:0<s.size:=O0;have d:=Ns s p;by_cases hl:Nc s.data.toList=true
 ·have t:=U0 hl;have hc:(s[0].toNat=48/\s.toList=[48])\/((s[0].toNat:Int)==48)=false:=by
   by_cases h48:s[0].toNat=48
   ·refine .inl ⟨h48,?_⟩;have h1:s[0]=48:=uj.1 h48;rw[ByteArray.toList_eq];exact((ji _).1 hl).2 (by rw[d];exact h1)
   exact .inr L8
  clear hl d;rcases hc with⟨h48,hz⟩|h48
  all_goals
   go_in
   go_wp2;go_loop[6,21] (λn i=>∃k:Nat,k<=s.size/\i=Sc Se k/\n=Sc Se (val (s.data.toList.take k))/\0<=val (s.data.toList.take k)/\val (s.data.toList.take k)<=40/\Hid ((s.data.toList.take k).all B_=true)) (λ_ i=>s.size-(RowKit.intOf i).toNat);exact⟨0,Y4 _,rfl,rfl,by simp[val],by simp[val],rfl⟩;obtain⟨k,hk,rfl,rfl,hv0,o,ha⟩:=hrel;by_cases f:k<s.size
   ·by_cases b:B_ s[k]=true
    ·have g:=(Ue _).1 b;have hw:=Zq _ g;have r:=U0 (Ee _ s k f ha.o b);have c:Hid (val (s.data.toList.take (k+1))=val (s.data.toList.take k)*10+((s[k].toNat:Int)-48)):=by
      rw[take_snoc s k f];exact Bf _ _
     clear b;by_cases q:40<val (s.data.toList.take k)*10+((s[k].toNat:Int)-48)
     ·have a:=U0 (qW (k+1) (by rw[c.o];exact q));go_wp2;go_ret2;exact⟨Vb (xN a.o).symm a.o.symm,rfl⟩
     go_wp2
     go_round
     exact⟨k+1,O0,by go_num,by rw[c.o],by rw[c.o];omega,by rw[c.o];omega,r⟩;exact V9
    have a:=U0 (EM (Ef _ s k f (by simpa using b)));have g:(s[k].toNat:Int)<48\/57<(s[k].toNat:Int):=by
     rcases Xo (s[k].toNat:Int) 48 with h|h
     ·exact .inl h
     rcases Xo 57 (s[k].toNat:Int)with l|l
     ·exact .inr l
     exact absurd ((Ue _).2 ⟨h,l⟩) b
    clear b;rcases g with b|b
    all_goals
     go_wp2
     all_goals go_ret2
     all_goals exact⟨Vb (xN a.o).symm a.o.symm,rfl⟩
   have m:=He _ s k O0 ha.o;have j:s.data.toList.take k=s.data.toList:=p_ L8;have a:=U0 (qM t.o m (by rw[<- j];exact o));have u:=U0 j;clear m j;go_wp2;go_ret2;exact⟨Vb (by rw[a0A a.o,u.o]) a.o.symm,rfl⟩
 have a:=U0 (ZG (by simpa using hl));have h48:s[0].toNat=48/\¬s.toList=[48]:=by
  rw[ByteArray.toList_eq]at e1 ⊢;rw[ji,d]at hl;by_cases h1:s[0]=48
  ·refine⟨by rw[h1];rfl,λhz=>hl ⟨e1,λ_=>hz⟩⟩
  exact absurd ⟨e1,λh=>absurd h h1⟩ hl
 obtain⟨h48,hz⟩:=h48;have hz':(!s.toList==[48])=true:=by simpa using hz
 clear d hl
 go_in
 go_wp2;go_ret2;exact⟨Vb (xN a.o).symm a.o.symm,rfl⟩
def U3(l:List UInt8):BY:=⟨l.toArray⟩
theorem I5(l:List UInt8):(U3 l).size=l.length:=by simp[U3,ByteArray.size]
theorem XT(l:List UInt8)(x:Int):U3 (l++[UInt8.ofNat x.toNat])=U3 l++strOfNums [x]:=by
 apply jg;simp[U3,strOfNums]
theorem MR(u:World)(y:Int):(convert 211 9 (Sa (some ⟨u.heap.size,0,none⟩) 1 1)).run prog (u.alloc (.cells #[.int .u8 y] 5)).drew=.ok (Sb (strOfNums [y])) (u.alloc (.cells #[.int .u8 y] 5)).drew:=
 run_convert_bytes_arg _ 211 5 underlying211 underlying5 _ 0 1 1 [y] rfl (λi hi=>by
  obtain rfl:i=0:=O0;simp) 9 underlying9
theorem a3x{u w1:World}{y:Int}(a:Below (u.alloc (.cells #[.int .u8 y] 5)).drew.heap.size (u.alloc (.cells #[.int .u8 y] 5)).drew w1):
 (convert 211 9 (Sa (some ⟨u.heap.size,0,none⟩) 1 1)).run prog w1=.ok (Sb (strOfNums [y])) w1:=
 run_convert_bytes_arg _ 211 5 underlying211 underlying5 _ 0 1 1 [y] rfl (λi hi=>by
  obtain rfl:i=0:=O0;rw[a.cell J4];simp) 9 underlying9
theorem a1e(f:Nat):∀(n:Int)(w:World),0<=n->n<=100000000->n.toNat<f->
 Calls prog 197 #[Sc Se n] w λe w'=>e=Sf (Sb (U3 (dec n)))/\Bw w w':=by
 induction f with
 | zero=>intro n w _ _ h;omega
 | succ f ih=>
  intro n w h0 h1 hf;have hcv:=mM;have hcd:=MR;have hz:∀y,(strOfNums [y]).size=1:=λy=>strOfNums_size [y];by_cases h:n<10
  ·go_in
   go_wp2;go_ret;exact⟨by rw[dec_lt n h];rfl,U6⟩
  have hq:(U3 (dec (n / 10))).size<=100000001:=by rw[I5];exact VL _ O0 O0
  have H:Hid (∀w,Calls prog 197 #[Sc Se (IntKind.i64.wrap (n.tdiv 10))] w λe w'=>e=Sf (vS (U3 (dec (n / 10))))/\Bw w w'):=by
   rw[YQ n h0 h1];exact λw=>ih (n / 10) w O0 O0 O0
  have b:Hid (Sf (vS (U3 (dec (n / 10))++strOfNums [48+n % 10]))=Sf (vS (U3 (dec n)))):=by
   rw[Sl n O0,XT];rfl
  clear ih
  go_in
  go_wp2_with fail
  go_region_with(go_at_call 197;refine(H.o _).mono ?_;rintro e w1⟨rfl,a⟩;(try(have hcb:=a3x a)))
  all_goals go_wp2
  all_goals go_ret
  all_goals refine⟨?_,?_⟩
  all_goals first
   | exact b.o
   | exact(((O4 w.heap.size w).drew).trans a).alloc a.size _
   | exact(((O4 w.heap.size w).alloc A8 _).drew).trans (a.mono J4)
def n29(l:List UInt8):Int:=if (1<=l.length/\l.length<=7)/\l.all B_=true/\dec (val l)=l then val l else -1
theorem PW(h:¬(1<=l.length/\l.length<=7)):n29 l=-1:=by unfold n29;rw[if_neg (λx=>h x.1)]
theorem uZ(h:l.all B_=false):n29 l=-1:=by unfold n29;rw[if_neg (λx=>by rw[h]at x;cases x.2.1)]
theorem KW(h:dec (val l)≠l):n29 l=-1:=by unfold n29;rw[if_neg (λx=>h x.2.2)]
theorem YF(h:1<=l.length/\l.length<=7)(h2:l.all B_=true)(a:dec (val l)=l):n29 l=val l:=by unfold n29;rw[if_pos ⟨h,h2,a⟩]
theorem rP(l:List UInt8):decide (0<=n29 l/\n29 l<=40)=Xe l:=by
 by_cases h:Xe l=true
 ·rw[h];have d:=h;simp only[Xe,Fa,Pe]at d;obtain⟨⟨h1,h2⟩,f⟩:=d;have hl:=Py l h2 h1 f;have e:=((ji l).1 h1).1;have g:1<=l.length:=dm.2 e;rw[YF ⟨g,O0⟩ h2 (Kz l h2 h1).1];have:=jo l h2;simp only[Pe];omega
 have d:Xe l=false:=by simpa using h
 rw[d];simp only[Xu];intro⟨a,b⟩;unfold n29 at a b;by_cases c:(1<=l.length/\l.length<=7)/\l.all B_=true/\dec (val l)=l
 ·rw[D8 c]at a b;have hd:=(aH ((val l).toNat+1) (val l) a O0).1;rw[c.2.2]at hd;rw[qM hd c.2.1 b]at d;cases d
 rw[U7 c]at a;omega
theorem OO(l:List UInt8)(h:l.all B_=true):val l<10 ^ l.length:=by
 revert h;refine dw (P:=λl=>l.all B_=true->val l<10 ^ l.length) (by simp[val]) (λl c a h=>?_) l;rw[jr]at h;simp only[zo,yC,oC,Fa]at h;have:=a h.1;have hc:=(Ue c).1 h.2;rw[Bf,Q9,jk,Int.pow_succ];omega
theorem nO(l:List UInt8)(h:l.all B_=true)(hl:l.length<=7):val l<=10000000:=by
 have h1:=OO l h;have h2:(10:Int) ^ l.length<=10 ^ 7:=by exact_mod_cast Nat.pow_le_pow_right O0 hl
 omega
theorem c148(s:BY)(w:World)(hs:s.size<=1048700):
 Calls prog 148 #[Sb s] w λe w'=>e=Sf (Sc Se (n29 s.data.toList))/\Bw w w':=by
 by_cases h:1<=s.size/\s.size<=7
 ·obtain⟨h1,h2⟩:=h
  go_in
  go_wp2;go_loop[3,4] (λn i=>∃k:Nat,k<=s.size/\i=Sc Se k/\n=Sc Se (val (s.data.toList.take k))/\0<=val (s.data.toList.take k)/\val (s.data.toList.take k)<=10000000/\Hid ((s.data.toList.take k).all B_=true)) (λ_ i=>s.size-(RowKit.intOf i).toNat);exact⟨0,Y4 _,rfl,rfl,by simp[val],by simp[val],rfl⟩;obtain⟨k,hk,rfl,rfl,m,hv1,ha⟩:=hrel;by_cases c:k<s.size
  ·by_cases a:B_ s[k]=true
   ·have d:=(Ue _).1 a;have hw:=Zq _ d;have l:=U0 (Ee _ s k c ha.o a);have g:Hid (val (s.data.toList.take (k+1))=val (s.data.toList.take k)*10+((s[k].toNat:Int)-48)):=by
     rw[take_snoc s k c];exact Bf _ _
    have p:=U0 (nO _ l.o L8);clear a;go_wp2
    go_round
    exact⟨k+1,O0,by go_num,by rw[g.o],by rw[g.o];omega,p.o,l⟩;exact V9
   have b:=U0 (uZ (Ef _ s k c (by simpa using a)));have d:(s[k].toNat:Int)<48\/57<(s[k].toNat:Int):=by
    rcases Xo (s[k].toNat:Int) 48 with h|h
    ·exact .inl h
    rcases Xo 57 (s[k].toNat:Int)with f|f
    ·exact .inr f
    exact absurd ((Ue _).2 ⟨h,f⟩) a
   clear a;rcases d with a|a
   all_goals
    go_wp2
    all_goals go_ret
    all_goals exact⟨Ws b.o.symm,O4 _ _⟩
  have q:=U0 (He _ s k O0 ha.o);have r:Hid (s.data.toList.take k=s.data.toList):=p_ L8
  go_wp2_with fail
  refine(a1e _ _ _ m O0 (Vj _)).mono ?_;rintro e w1⟨rfl,j⟩;rw[r.o];by_cases hd:dec (val s.data.toList)=s.data.toList
  ·have b:=U0 (YF (by simpa using⟨h1,h2⟩) q.o hd);have o:((U3 (dec (val s.data.toList))).toList==s.toList)=true:=by
    rw[hd,ByteArray.toList_eq,ByteArray.toList_eq];simp[U3]
   clear hd;go_wp2;go_ret;exact⟨Ws b.o.symm,j⟩
  have b:=U0 (KW hd);have o:((U3 (dec (val s.data.toList))).toList==s.toList)=false:=by
   rw[ByteArray.toList_eq,ByteArray.toList_eq];simpa[U3]using hd
  clear hd;go_wp2;go_ret;exact⟨Ws b.o.symm,j⟩
 have b:Hid (n29 s.data.toList=-1):=PW (by simpa using h);by_cases h1:1<=s.size
 all_goals
  go_in
  go_wp2
  all_goals go_ret
  all_goals exact⟨Ws b.o.symm,O4 _ _⟩
