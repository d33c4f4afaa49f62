import Derived.Test.YtkccjgajimjjdaaGreatDoorSH
import Derived.Deep.RegionWith
set_option linter.unusedVariables false
set_option maxHeartbeats 8000000
set_option maxRecDepth 100000
namespace Go.Proofs.YtkccjgajimjjdaaGreatDoor
open Proofs.Tryz Go.RowKit
variable{l:List UInt8}
def G7(s:BY)(n:Int):BY:=if 1<=n/\n<=8 then strOfNums (outs (hsum s.data.toList) n.toNat) else ByteArray.empty
theorem c59(n l h:Int)(w:World):
 Calls prog 59 #[.int .i64 n,.int .i64 l,.int .i64 h] w λe w'=>e=.returned (.bool (decide (l<=n/\n<=h)))/\w'=w:=by
 by_cases h1:l<=n<;>by_cases h2:n<=h
 all_goals
  go_in
  go_wp2
  all_goals go_ret
  all_goals exact⟨by simp[*],rfl⟩
theorem QV(n:Int)(w:World):
 Calls prog 58 #[.int .i64 n] w λe w'=>e=.returned (.bool (decide (1<=n/\n<=8)))/\w'=w:=by
 go_in
 go_wp2_with(go_at_call 59;refine(c59 _ _ _ _).mono ?_;rintro e w'⟨rfl,rfl⟩)
 go_ret;exact⟨E5,rfl⟩
theorem c138(n:Int)(w:World):
 Calls prog 138 #[.int .i64 n] w λe w'=>e=.returned (.bool (decide (1<=n/\n<=8)))/\w'=w:=by
 by_cases h1:1<=n<;>by_cases h2:n<=8
 all_goals
  go_in
  go_wp2
  all_goals go_ret
  all_goals exact⟨by simp[*],rfl⟩
theorem lC(s:BY)(n:Int)(w:World)(b:s.size<=1048700):
 Calls prog 219 #[.string s,.int .i64 n] w λe w'=>e=.returned (.string (G7 s n))/\Bw w w':=by
 by_cases h:1<=n/\n<=8
 ·have hd:decide (1<=n/\n<=8)=true:=by simpa using h
  have hx:=Qj s.data.toList;obtain⟨k,rfl⟩:=aU (show 0<=n by omega);have a:Hid (G7 s k=strOfNums (outs (hsum s.data.toList) k)):=by unfold G7;rw[if_pos h];rfl
  go_in
  go_wp2_with fail
  refine(QV _ _).mono ?_;rintro e w'⟨rfl,rfl⟩;rw[hd]
  go_wp2_with fail
  refine(a4c _ _ b).mono ?_;rintro e w'⟨rfl,rfl⟩
  go_wp2_with fail
  refine(a3P _ _ _ hx.1 hx.2 O0).mono ?_;rintro e w'⟨rfl,c⟩;go_wp2;go_ret;exact⟨by rw[a.out];rfl,c⟩
 have hd:decide (1<=n/\n<=8)=false:=by simpa using h
 have a:Hid (G7 s n=ByteArray.empty):=by unfold G7;rw[if_neg h];rfl
 go_in
 go_wp2_with fail
 refine(QV _ _).mono ?_;rintro e w'⟨rfl,rfl⟩;rw[hd];go_wp2;go_ret;exact⟨by rw[a.out];rfl,G5 _ _⟩
theorem a4X(u:World)(b k:Nat)(h1:1<=k)(h2:k<=8):
 (Instr.sliceAt 291 (.pointer (some ⟨b,0,none⟩)) (some (.int .i64 (8-(k:Int)))) none none).run prog u=.ok (.slice (some ⟨b,8-k,none⟩) k k) u:=by
 obtain rfl|rfl|rfl|rfl|rfl|rfl|rfl|rfl:k=1\/k=2\/k=3\/k=4\/k=5\/k=6\/k=7\/k=8:=O0
 all_goals kernel_rfl
theorem a2M(u:World)(X:Int)(k:Nat)(h2:k<=8):
 (convert 181 9 (.slice (some ⟨u.heap.size,8-k,none⟩) k k)).run prog (u.alloc (.cells #[.int .u8 (kc X k 0),.int .u8 (kc X k 1),.int .u8 (kc X k 2),.int .u8 (kc X k 3),.int .u8 (kc X k 4),.int .u8 (kc X k 5),.int .u8 (kc X k 6),.int .u8 (kc X k 7)] 291))
  =.ok (.string (strOfNums (outs X k))) (u.alloc (.cells #[.int .u8 (kc X k 0),.int .u8 (kc X k 1),.int .u8 (kc X k 2),.int .u8 (kc X k 3),.int .u8 (kc X k 4),.int .u8 (kc X k 5),.int .u8 (kc X k 6),.int .u8 (kc X k 7)] 291)):=
 run_convert_bytes_arg _ 181 5 underlying181 underlying5 _ (8-k) k k (outs X k) (Xp X k) (λi b=>by
  rw[<- zV X k i h2 b];have a:8-k+i<8:=O0;generalize 8-k+i=j at a ⊢;obtain rfl|rfl|rfl|rfl|rfl|rfl|rfl|rfl:j=0\/j=1\/j=2\/j=3\/j=4\/j=5\/j=6\/j=7:=O0
  all_goals simp) 9 underlying9
theorem zJ(s:BY)(n:Int)(w:World)(f:s.size<=1048700):
 Calls prog 184 #[.string s,.int .i64 n] w λe w'=>e=.returned (.string (G7 s n))/\Bw w w':=by
 by_cases h:1<=n/\n<=8
 ·have hd:decide (1<=n/\n<=8)=true:=by simpa using h
  have hx:=Qj s.data.toList;obtain⟨k,rfl⟩:=aU (show 0<=n by omega);have a:Hid (G7 s k=strOfNums (outs (hsum s.data.toList) k)):=by unfold G7;rw[if_pos h];rfl
  go_in
  go_wp2_with fail
  refine(c138 _ _).mono ?_;rintro e w'⟨rfl,rfl⟩;rw[hd]
  go_wp2_with fail
  refine(a3Y _ _ _ O0 f).mono ?_;rintro e w'⟨⟨X,d,rfl⟩,c⟩;have g:=U0 d;clear d;have g1:=λ(u:World) (b:Nat)=>a4X u b k O0 O0;have g2:=λ(u:World)=>a2M u X k O0;go_wp2;go_ret;exact⟨by rw[a.out,<- g.out];rfl,c.alloc c.size _⟩
 have hd:decide (1<=n/\n<=8)=false:=by simpa using h
 have a:Hid (G7 s n=ByteArray.empty):=by unfold G7;rw[if_neg h];rfl
 go_in
 go_wp2_with fail
 refine(c138 _ _).mono ?_;rintro e w'⟨rfl,rfl⟩;rw[hd];go_wp2;go_ret;exact⟨by rw[a.out];rfl,G5 _ _⟩
theorem b_{a b:Bool}(h:a=b):Ending.returned (.bool a)=.returned (.bool b):=by rw[h]
theorem Fe(p:UInt8->Bool)(s:BY)(k:Nat)(h:k<s.size)(ha:(s.data.toList.take k).all p=true)(a:p s[k]=true):(s.data.toList.take (k+1)).all p=true:=by
 rw[take_snoc s k h,Np,ha];simpa using a
theorem Hf(p:UInt8->Bool)(s:BY)(k:Nat)(h:k<s.size)(a:p s[k]=false):s.data.toList.all p=false:=by
 rw[List.all_eq_false];exact⟨s[k],by simp[yJ],by simp[a]⟩
theorem Ie(p:UInt8->Bool)(s:BY)(k:Nat)(h:s.size<=k)(ha:(s.data.toList.take k).all p=true):s.data.toList.all p=true:=by
 rwa[C_ (by simpa using h)]at ha
theorem JA(s:BY)(h:¬(1<=s.size/\s.size<=20)):X6 s.data.toList=false:=by
 unfold X6;have:(decide (1<=s.data.toList.length/\s.data.toList.length<=20))=false:=by
  simp only[ru];simpa using h
 rw[this];rfl
theorem DC(s:BY)(h:1<=s.size/\s.size<=20):X6 s.data.toList=s.data.toList.all Uk:=by
 unfold X6;have:(decide (1<=s.data.toList.length/\s.data.toList.length<=20))=true:=by
  simp only[rf];simpa using h
 rw[this];rfl
theorem c148(s:BY)(w:World)(hs:s.size<=1048700):
 Calls prog 148 #[.string s] w λe w'=>e=.returned (.bool (X6 s.data.toList))/\w'=w:=by
 by_cases h:1<=s.size/\s.size<=20
 ·have b:=U0 (DC s h);obtain⟨h1,h2⟩:=h
  go_in
  go_wp2;go_loop[14] (λi=>∃k:Nat,k<=s.size/\i=.int .i64 k/\Hid ((s.data.toList.take k).all Uk=true)) (λi=>s.size-(RowKit.intOf i).toNat);exact⟨0,J4 _,rfl,rfl⟩;obtain⟨k,hk,rfl,ha⟩:=hrel;by_cases d:k<s.size
  ·by_cases a:Uk s[k]=true
   ·have f:=(jr _).1 a;have g:=Hid.out ha;have j:=U0 (Fe _ s k d ha.out a);clear a g;go_wp2
    go_round
    exact⟨k+1,O0,by go_num,j⟩;exact Z9
   have hf:=U0 (Hf _ s k d (by simpa using a));have f:(s[k].toNat:Int)<33\/126<(s[k].toNat:Int):=by
    rcases Oo (s[k].toNat:Int) 33 with h|h
    ·exact .inl h
    rcases Oo 126 (s[k].toNat:Int)with c|c
    ·exact .inr c
    exact absurd ((jr _).2 ⟨h,c⟩) a
   clear a;rcases f with a|a
   all_goals
    go_wp2
    all_goals go_ret
    all_goals exact⟨b_ (by rw[b.out,hf.out]),rfl⟩
  go_wp2;go_ret;exact⟨b_ (by rw[b.out,Ie _ s k O0 ha.out]),rfl⟩
 have b:=U0 (JA s h);by_cases h1:1<=s.size
 all_goals
  go_in
  go_wp2
  all_goals go_ret
  all_goals exact⟨b_ (by rw[b.out]),rfl⟩
theorem VO(s:BY)(w:World)(hs:s.size<=1048700):
 Calls prog 63 #[.string s] w λe w'=>e=.returned (.bool (X6 s.data.toList))/\w'=w:=by
 by_cases h:1<=s.size/\s.size<=20
 ·have b:=U0 (DC s h);have hd:decide ((1:Int)<=(s.size:Int)/\(s.size:Int)<=20)=true:=Q8
  go_in
  go_wp2_with fail
  refine(c59 _ _ _ _).mono ?_;rintro e w'⟨rfl,rfl⟩;rw[hd];go_wp2;go_loop[3] (λi=>∃k:Nat,k<=s.size/\i=.int .i64 k/\Hid ((s.data.toList.take k).all Uk=true)) (λi=>s.size-(RowKit.intOf i).toNat);exact⟨0,J4 _,rfl,rfl⟩;obtain⟨k,hk,rfl,ha⟩:=hrel;by_cases d:k<s.size
  ·by_cases a:Uk s[k]=true
   ·have f:=(jr _).1 a;have g:=U0 (Fe _ s k d ha.out a);clear a;go_wp2
    go_round
    exact⟨k+1,O0,by go_num,g⟩;exact Z9
   have hf:=U0 (Hf _ s k d (by simpa using a));have f:(s[k].toNat:Int)<33\/126<(s[k].toNat:Int):=by
    rcases Oo (s[k].toNat:Int) 33 with h|h
    ·exact .inl h
    rcases Oo 126 (s[k].toNat:Int)with c|c
    ·exact .inr c
    exact absurd ((jr _).2 ⟨h,c⟩) a
   clear a;rcases f with a|a
   all_goals
    go_wp2
    all_goals go_ret
    all_goals exact⟨b_ (by rw[b.out,hf.out]),rfl⟩
  go_wp2;go_ret;exact⟨b_ (by rw[b.out,Ie _ s k O0 ha.out]),rfl⟩
 have b:=U0 (JA s h);have hd:decide ((1:Int)<=(s.size:Int)/\(s.size:Int)<=20)=false:=by simp only[ru];omega
 go_in
 go_wp2_with fail
 refine(c59 _ _ _ _).mono ?_;rintro e w'⟨rfl,rfl⟩;rw[hd];go_wp2;go_ret;exact⟨b_ (by rw[b.out]),rfl⟩
theorem jq(s:BY)(h:1<=s.size):s.data.toList.isEmpty=false:=by
 cases hl:s.data.toList with
 | nil=>
  have:s.data.toList.length=s.size:=E5;rw[hl]at this;simp at this;omega
 | cons a r=>rfl
theorem Yb{a b:Int}{x y:Bool}(h:a=b)(c:x=y):Ending.returned (.tuple #[.int .i64 a,.bool x])=.returned (.tuple #[.int .i64 b,.bool y]):=by rw[h,c]
def WR(l:List UInt8):Int:=if qf l=true then val l else 0
theorem Uh(l:List UInt8):Ic l=true↔l≠[]/\(l.headD 0=48->l=[48]):=by
 cases l with
 | nil=>simp[Ic]
 | cons a r=>
  by_cases h:a=48
  ·simp[Ic,h]
  simp[Ic,h]
theorem MG(h:Ic l=false):qf l=false:=by simp[qf,h]
theorem dM(h:l.all B_=false):qf l=false:=by simp only[qf,h,Pv,OI]
theorem VW(k:Nat)(h:40<val (l.take k)):qf l=false:=by
 by_cases ha:l.all B_=true
 ·have:=Aq l ha k;have hd:decide (val l<=40)=false:=by simp only[ru];omega
  simp only[qf,hd,Pv]
 exact dM (by simpa using ha)
theorem qM(h1:Ic l=true)(h2:l.all B_=true)(a:val l<=40):qf l=true:=by
 have hd:decide (val l<=40)=true:=by simpa using a
 simp only[qf,h1,h2,hd,YJ]
theorem TL(h:qf l=false):WR l=0:=by simp[WR,h]
theorem a1f(h:qf l=true):WR l=val l:=by simp[WR,h]
theorem Lr(s:BY)(h:0<s.size):s.data.toList.headD 0=s[0]:=by
 have e:s.data.toList=s[0]::s.data.toList.tail:=by
  have hl:s.data.toList.length=s.size:=E5
  cases hd:s.data.toList with
  | nil=>rw[hd]at hl;simp at hl;omega
  | cons a r=>
   simp only[List.tail_cons]
   congr 1
   have:s[0]=s.data.toList[0]'(by simpa using h):=by simp[yJ]
   rw[this];simp[hd]
 rw[e];rfl
theorem xq(c:UInt8)(h:48<=(c.toNat:Int)/\(c.toNat:Int)<=57):IntKind.u8.wrap ((c.toNat:Int)-48)=(c.toNat:Int)-48:=by
 simp[IntKind.wrap,IntKind.signed,IntKind.bits];omega
theorem a5v(s:BY)(w:World)(hs:s.size<=1048700):
 Calls prog 223 #[.string s,.int .i64 40] w λe w'=>e=.returned (.tuple #[.int .i64 (WR s.data.toList),.bool (qf s.data.toList)])/\w'=w:=by
 by_cases h0:s.size=0
 ·have e0:s.toList=[]:=by
   rw[ByteArray.toList_eq];exact Qb.1 (by simpa using h0)
  have a:Hid (qf s.data.toList=false):=MG (by rw[<- ByteArray.toList_eq,e0];rfl)
  go_in
  go_wp2;go_ret2;exact⟨Yb (TL a.out).symm a.out.symm,rfl⟩
 have e0:s.toList.isEmpty=false:=by rw[ByteArray.toList_eq];exact jq s O0
 have e1:¬s.toList=[]:=λh=>by rw[h]at e0;cases e0
 have p:0<s.size:=O0;have d:=Lr s p;by_cases hl:Ic s.data.toList=true
 ·have t:=U0 hl;have hc:(s[0].toNat=48/\s.toList=[48])\/((s[0].toNat:Int)==48)=false:=by
   by_cases h48:s[0].toNat=48
   ·refine .inl ⟨h48,?_⟩;have h1:s[0]=48:=Wi.1 h48;rw[ByteArray.toList_eq];exact((Uh _).1 hl).2 (by rw[d];exact h1)
   exact .inr Q8
  clear hl d;rcases hc with⟨h48,hz⟩|h48
  all_goals
   go_in
   go_wp2;go_loop[6,21] (λn i=>∃k:Nat,k<=s.size/\i=.int .i64 k/\n=.int .i64 (val (s.data.toList.take k))/\0<=val (s.data.toList.take k)/\val (s.data.toList.take k)<=40/\Hid ((s.data.toList.take k).all B_=true)) (λ_ i=>s.size-(RowKit.intOf i).toNat);exact⟨0,J4 _,rfl,rfl,by simp[val],by simp[val],rfl⟩;obtain⟨k,hk,rfl,rfl,hv0,o,ha⟩:=hrel;by_cases f:k<s.size
   ·by_cases b:B_ s[k]=true
    ·have g:=(Ye _).1 b;have hw:=xq _ g;have r:=U0 (Fe _ s k f ha.out b);have c:Hid (val (s.data.toList.take (k+1))=val (s.data.toList.take k)*10+((s[k].toNat:Int)-48)):=by
      rw[take_snoc s k f];exact Df _ _
     clear b;by_cases q:40<val (s.data.toList.take k)*10+((s[k].toNat:Int)-48)
     ·have a:=U0 (VW (k+1) (by rw[c.out];exact q));go_wp2;go_ret2;exact⟨Yb (TL a.out).symm a.out.symm,rfl⟩
     go_wp2
     go_round
     exact⟨k+1,O0,by go_num,by rw[c.out],by rw[c.out];omega,by rw[c.out];omega,r⟩;exact Z9
    have a:=U0 (dM (Hf _ s k f (by simpa using b)));have g:(s[k].toNat:Int)<48\/57<(s[k].toNat:Int):=by
     rcases Oo (s[k].toNat:Int) 48 with h|h
     ·exact .inl h
     rcases Oo 57 (s[k].toNat:Int)with l|l
     ·exact .inr l
     exact absurd ((Ye _).2 ⟨h,l⟩) b
    clear b;rcases g with b|b
    all_goals
     go_wp2
     all_goals go_ret2
     all_goals exact⟨Yb (TL a.out).symm a.out.symm,rfl⟩
   have m:=Ie _ s k O0 ha.out;have j:s.data.toList.take k=s.data.toList:=C_ Q8;have a:=U0 (qM t.out m (by rw[<- j];exact o));have u:=U0 j;clear m j;go_wp2;go_ret2;exact⟨Yb (by rw[a1f a.out,u.out]) a.out.symm,rfl⟩
 have a:=U0 (MG (by simpa using hl));have h48:s[0].toNat=48/\¬s.toList=[48]:=by
  rw[ByteArray.toList_eq]at e1 ⊢;rw[Uh,d]at hl;by_cases h1:s[0]=48
  ·refine⟨by rw[h1];rfl,λhz=>hl ⟨e1,λ_=>hz⟩⟩
  exact absurd ⟨e1,λh=>absurd h h1⟩ hl
 obtain⟨h48,hz⟩:=h48;have hz':(!s.toList==[48])=true:=by simpa using hz
 clear d hl
 go_in
 go_wp2;go_ret2;exact⟨Yb (TL a.out).symm a.out.symm,rfl⟩
def I4(l:List UInt8):BY:=⟨l.toArray⟩
theorem P5(l:List UInt8):(I4 l).size=l.length:=by simp[I4,ByteArray.size]
theorem zS(l:List UInt8)(x:Int):I4 (l++[UInt8.ofNat x.toNat])=I4 l++strOfNums [x]:=by
 apply Xf;simp[I4,strOfNums]
theorem ZU(u:World)(y:Int):(convert 181 9 (.slice (some ⟨u.heap.size,0,none⟩) 1 1)).run prog (u.alloc (.cells #[.int .u8 y] 5)).drew=.ok (.string (strOfNums [y])) (u.alloc (.cells #[.int .u8 y] 5)).drew:=
 run_convert_bytes_arg _ 181 5 underlying181 underlying5 _ 0 1 1 [y] rfl (λi hi=>by
  obtain rfl:i=0:=O0;simp) 9 underlying9
theorem a2s{u w1:World}{y:Int}(a:Below (u.alloc (.cells #[.int .u8 y] 5)).drew.heap.size (u.alloc (.cells #[.int .u8 y] 5)).drew w1):
 (convert 181 9 (.slice (some ⟨u.heap.size,0,none⟩) 1 1)).run prog w1=.ok (.string (strOfNums [y])) w1:=
 run_convert_bytes_arg _ 181 5 underlying181 underlying5 _ 0 1 1 [y] rfl (λi hi=>by
  obtain rfl:i=0:=O0;rw[a.cell E5];simp) 9 underlying9
theorem c73(f:Nat):∀(n:Int)(w:World),0<=n->n<=100000000->n.toNat<f->
 Calls prog 73 #[.int .i64 n] w λe w'=>e=.returned (.string (I4 (dec n)))/\Bw w w':=by
 induction f with
 | zero=>intro n w _ _ h;omega
 | succ f ih=>
  intro n w h0 h1 hf;have hcv:=SL;have hcd:=ZU;have hz:∀y,(strOfNums [y]).size=1:=λy=>strOfNums_size [y];by_cases h:n<10
  ·go_in
   go_wp2;go_ret;exact⟨by rw[dec_lt n h];rfl,Y6⟩
  have hq:(I4 (dec (n / 10))).size<=100000001:=by rw[P5];exact EK _ O0 O0
  have H:Hid (∀w,Calls prog 73 #[.int .i64 (IntKind.i64.wrap (n.tdiv 10))] w λe w'=>e=.returned (vS (I4 (dec (n / 10))))/\Bw w w'):=by
   rw[CP n h0 h1];exact λw=>ih (n / 10) w O0 O0 O0
  have b:Hid (Ending.returned (vS (I4 (dec (n / 10))++strOfNums [48+n % 10]))=.returned (vS (I4 (dec n)))):=by
   rw[Wj n O0,zS];rfl
  clear ih
  go_in
  go_wp2_with fail
  go_region_with(go_at_call 73;refine(H.out _).mono ?_;rintro e w1⟨rfl,a⟩;(try(have hcb:=a2s a)))
  all_goals go_wp2
  all_goals go_ret
  all_goals refine⟨?_,?_⟩
  all_goals first
   | exact b.out
   | exact(((G5 w.heap.size w).drew).trans a).alloc a.size _
   | exact(((G5 w.heap.size w).alloc X7 _).drew).trans (a.mono E5)
def n29(l:List UInt8):Int:=if (1<=l.length/\l.length<=7)/\l.all B_=true/\dec (val l)=l then val l else -1
theorem iW(h:¬(1<=l.length/\l.length<=7)):n29 l=-1:=by unfold n29;rw[if_neg (λx=>h x.1)]
theorem aX(h:l.all B_=false):n29 l=-1:=by unfold n29;rw[if_neg (λx=>by rw[h]at x;cases x.2.1)]
theorem qX(h:dec (val l)≠l):n29 l=-1:=by unfold n29;rw[if_neg (λx=>h x.2.2)]
theorem gG(h:1<=l.length/\l.length<=7)(h2:l.all B_=true)(a:dec (val l)=l):n29 l=val l:=by unfold n29;rw[if_pos ⟨h,h2,a⟩]
theorem qO(l:List UInt8):decide (0<=n29 l/\n29 l<=40)=qf l:=by
 by_cases h:qf l=true
 ·rw[h];have d:=h;simp only[qf,Ia,rf]at d;obtain⟨⟨h1,h2⟩,f⟩:=d;have hl:=Dx l h2 h1 f;have e:=((Uh l).1 h1).1;have g:1<=l.length:=Rl.2 e;rw[gG ⟨g,O0⟩ h2 (Qy l h2 h1).1];have:=Tm l h2;simp only[rf];omega
 have d:qf l=false:=by simpa using h
 rw[d];simp only[ru];intro⟨a,b⟩;unfold n29 at a b;by_cases c:(1<=l.length/\l.length<=7)/\l.all B_=true/\dec (val l)=l
 ·rw[L8 c]at a b;have hd:=(yG ((val l).toNat+1) (val l) a O0).1;rw[c.2.2]at hd;rw[qM hd c.2.1 b]at d;cases d
 rw[Y7 c]at a;omega
theorem QM(l:List UInt8)(h:l.all B_=true):val l<10 ^ l.length:=by
 revert h;refine Uu (P:=λl=>l.all B_=true->val l<10 ^ l.length) (by simp[val]) (λl c a h=>?_) l;rw[Np]at h;simp only[Xm,yB,MB,Ia]at h;have:=a h.1;have hc:=(Ye c).1 h.2;rw[Df,P9,Oj,Int.pow_succ];omega
theorem ZO(l:List UInt8)(h:l.all B_=true)(hl:l.length<=7):val l<=10000000:=by
 have h1:=QM l h;have h2:(10:Int) ^ l.length<=10 ^ 7:=by exact_mod_cast Nat.pow_le_pow_right O0 hl
 omega
theorem a0S(s:BY)(w:World)(hs:s.size<=1048700):
 Calls prog 125 #[.string s] w λe w'=>e=.returned (.int .i64 (n29 s.data.toList))/\Bw w w':=by
 by_cases h:1<=s.size/\s.size<=7
 ·obtain⟨h1,h2⟩:=h
  go_in
  go_wp2;go_loop[3,4] (λn i=>∃k:Nat,k<=s.size/\i=.int .i64 k/\n=.int .i64 (val (s.data.toList.take k))/\0<=val (s.data.toList.take k)/\val (s.data.toList.take k)<=10000000/\Hid ((s.data.toList.take k).all B_=true)) (λ_ i=>s.size-(RowKit.intOf i).toNat);exact⟨0,J4 _,rfl,rfl,by simp[val],by simp[val],rfl⟩;obtain⟨k,hk,rfl,rfl,m,hv1,ha⟩:=hrel;by_cases c:k<s.size
  ·by_cases a:B_ s[k]=true
   ·have d:=(Ye _).1 a;have hw:=xq _ d;have l:=U0 (Fe _ s k c ha.out a);have g:Hid (val (s.data.toList.take (k+1))=val (s.data.toList.take k)*10+((s[k].toNat:Int)-48)):=by
     rw[take_snoc s k c];exact Df _ _
    have p:=U0 (ZO _ l.out Q8);clear a;go_wp2
    go_round
    exact⟨k+1,O0,by go_num,by rw[g.out],by rw[g.out];omega,p.out,l⟩;exact Z9
   have b:=U0 (aX (Hf _ s k c (by simpa using a)));have d:(s[k].toNat:Int)<48\/57<(s[k].toNat:Int):=by
    rcases Oo (s[k].toNat:Int) 48 with h|h
    ·exact .inl h
    rcases Oo 57 (s[k].toNat:Int)with f|f
    ·exact .inr f
    exact absurd ((Ye _).2 ⟨h,f⟩) a
   clear a;rcases d with a|a
   all_goals
    go_wp2
    all_goals go_ret
    all_goals exact⟨Rq b.out.symm,G5 _ _⟩
  have q:=U0 (Ie _ s k O0 ha.out);have r:Hid (s.data.toList.take k=s.data.toList):=C_ Q8
  go_wp2_with fail
  refine(c73 _ _ _ m O0 (Dl _)).mono ?_;rintro e w1⟨rfl,j⟩;rw[r.out];by_cases hd:dec (val s.data.toList)=s.data.toList
  ·have b:=U0 (gG (by simpa using⟨h1,h2⟩) q.out hd);have o:((I4 (dec (val s.data.toList))).toList==s.toList)=true:=by
    rw[hd,ByteArray.toList_eq,ByteArray.toList_eq];simp[I4]
   clear hd;go_wp2;go_ret;exact⟨Rq b.out.symm,j⟩
  have b:=U0 (qX hd);have o:((I4 (dec (val s.data.toList))).toList==s.toList)=false:=by
   rw[ByteArray.toList_eq,ByteArray.toList_eq];simpa[I4]using hd
  clear hd;go_wp2;go_ret;exact⟨Rq b.out.symm,j⟩
 have b:Hid (n29 s.data.toList=-1):=iW (by simpa using h);by_cases h1:1<=s.size
 all_goals
  go_in
  go_wp2
  all_goals go_ret
  all_goals exact⟨Rq b.out.symm,G5 _ _⟩
