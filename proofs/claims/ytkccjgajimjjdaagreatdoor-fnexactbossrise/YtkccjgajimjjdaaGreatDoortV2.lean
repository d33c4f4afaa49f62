import Derived.Test.YtkccjgajimjjdaaGreatDooreY3
import Derived.Test.YtkccjgajimjjdaaGreatDooreYI
import Derived.Test.YtkccjgajimjjdaaGreatDoortT0
set_option maxRecDepth 100000
set_option linter.unusedVariables false
set_option maxHeartbeats 8000000
namespace Go.Proofs.YtkccjgajimjjdaaGreatDoor
open Proofs.Tryz Go.RowKit
def hx(b:UInt8):Int:=if 48<=(b.toNat:Int)/\(b.toNat:Int)<=57 then(b.toNat:Int)-48 else if 97<=(b.toNat:Int)/\(b.toNat:Int)<=102 then(b.toNat:Int)-97+10 else -1
theorem TY{a b:Int}(h:a=b):Ending.returned (.int .i64 a)=.returned (.int .i64 b):=by rw[h]
theorem c173(c:UInt8)(w:World):
 Calls prog 173 #[.int .u8 c.toNat] w λe w'=>e=.returned (.int .i64 (hx c))/\w'=w:=by
 have hc:=Eu c;have a:Hid (hx c=if 48<=(c.toNat:Int)/\(c.toNat:Int)<=57 then(c.toNat:Int)-48 else if 97<=(c.toNat:Int)/\(c.toNat:Int)<=102 then(c.toNat:Int)-97+10 else -1):=rfl;generalize (c.toNat:Int)=n at*
 go_in
 go_wp2
 all_goals go_ret
 all_goals refine⟨TY ?_,rfl⟩
 all_goals rw[a.out]
 all_goals(repeat' split)
 all_goals omega
theorem OC(b:UInt8):(Lib.indexByte hexL b=-1/\∀n,n<16->hexL.getD n 0≠b)\/∃n:Nat,n<16/\Lib.indexByte hexL b=n/\hexL.getD n 0=b:=by
 have hge:=Lib.indexByte_ge hexL b;by_cases h:Lib.indexByte hexL b=-1
 ·refine .inl ⟨h,λn a e=>Lib.indexByte_none h n ?_⟩;have hl:n<hexL.length:=a;rw[<- e];simp[List.getD,L9 hl]
 obtain⟨o,ho⟩:∃o:Nat,Lib.indexByte hexL b=o:=⟨(Lib.indexByte hexL b).toNat,O0⟩;obtain⟨h1,_⟩:=Lib.indexByte_some ho;have hl:o<hexL.length:=by
  rcases D8 o hexL.length with h|h
  ·exact h
  rw[Zb h]at h1;cases h1
 exact .inr ⟨o,hl,ho,by simp[List.getD,h1]⟩
theorem a1I(b:UInt8)(w:World):
 Calls prog 302 #[.string ⟨#[48,49,50,51,52,53,54,55,56,57,97,98,99,100,101,102]⟩,.int .u8 b.toNat] w λe w'=>e=.returned (.int .i64 (Lib.indexByte hexL b))/\w'=w:=by
 refine(Tryz.strings_IndexByte _ _ w).mono ?_;rintro e w'⟨rfl,rfl⟩;refine⟨TY ?_,rfl⟩;have e1:(b.toNat:Int).toNat.toUInt8=b:=E5;rw[e1];rfl
theorem dW{a b:Int}{x y:Bool}(h:a=b)(c:x=y):Ending.returned (.tuple #[.int .u8 a,.bool x])=.returned (.tuple #[.int .u8 b,.bool y]):=by rw[h,c]
def YG(l:List UInt8)(c:UInt8)(ok:Bool):Prop:=(ok=true->T_ c=false/\∃r,l=qb c++r)/\(ok=false->∀d r,T_ d=false->l≠qb d++r)
theorem NS:∀h l:Fin 16,bits BinOp.or IntKind.i64 (((h.val:Nat):Int)*16) ((l.val:Nat):Int)=16*((h.val:Nat):Int)+((l.val:Nat):Int):=by decide +kernel
theorem zX(h l:Nat)(a:h<16)(hl:l<16):bits BinOp.or IntKind.i64 ((h:Int)*16) (l:Int) % 256=((UInt8.ofNat (16*h+l)).toNat:Int):=by
 have:=NS ⟨h,a⟩ ⟨l,hl⟩;simp only at this;rw[this];simp
theorem NH(h l:Nat)(hh:h<16)(hl:l<16):(UInt8.ofNat (16*h+l)).toNat / 16=h/\(UInt8.ofNat (16*h+l)).toNat % 16=l:=by
 have e:(UInt8.ofNat (16*h+l)).toNat=16*h+l:=Q8;rw[e];omega
theorem AB(s:BY)(h:2<s.size):∃r,s.data.toList=s[0]::s[1]::s[2]::r:=by
 have hl:s.data.toList.length=s.size:=E5;have g:∀(k:Nat)(d:k<s.size),s.data.toList[k]'(by simpa using d)=s[k]:=λk d=>by simp[yJ]
 rcases hd:s.data.toList with _|⟨a,_|⟨b,_|⟨c,r⟩⟩⟩
 ·rw[hd]at hl;simp at hl;omega
 ·rw[hd]at hl;simp at hl;omega
 ·rw[hd]at hl;simp at hl;omega
 have g0:=g 0 O0;have g1:=g 1 O0;have g2:=g 2 h;simp only[hd,List.getElem_cons_zero,List.getElem_cons_succ]at g0 g1 g2;exact⟨r,by rw[<- g0,<- g1,<- g2]⟩
theorem zB{s:BY}(h:2<s.size)(a:s[0]≠92\/(∀n,n<16->hexL.getD n 0≠s[1])\/(∀n,n<16->hexL.getD n 0≠s[2]))(c:UInt8):YG s.data.toList c false:=by
 refine⟨(λh=>by cases h),λ_ d r hd e=>?_⟩;obtain⟨q,b⟩:=AB s h;rw[b,xg hd]at e;simp only[Zf,j_,Xi]at e;have ld:=Eu d;rcases a with a|a|a
 ·exact a e.1
 ·exact a _ O0 e.2.1.symm
 exact a _ O0 e.2.2.1.symm
def a5m(l:List UInt8)(e:Ending):Prop:=∃c ok,e=.returned (.tuple #[.int .u8 (c:UInt8).toNat,.bool ok])/\YG l c ok
theorem a4V(s:BY)(w:World)(hs:s.size<=1048700):
 Calls prog 269 #[.string s] w λe w'=>a5m s.data.toList e/\w'=w:=by
 by_cases h3:s.size<3
 ·have a:Hid (YG s.data.toList 0 false):=by
   refine⟨(λh=>by cases h),λ_ d r hd e=>?_⟩;have:=l7 List.length e;rw[xg hd]at this;simp at this;omega
  go_in
  go_wp2;go_ret2;exact⟨⟨0,false,rfl,a⟩,rfl⟩
 have hz0:0<s.size:=O0;have hz1:1<s.size:=O0;have f:2<s.size:=O0;by_cases j:s[0]=92
 ·have e0:((s[0].toNat:Int) !=92)=false:=by rw[j];rfl
  have x:=U0 j
  go_in
  go_wp2_with fail
  refine(a1I _ _).mono ?_;rintro e w'⟨rfl,rfl⟩
  go_wp2_with fail
  refine(a1I _ _).mono ?_;rintro e w'⟨rfl,rfl⟩;rcases OC s[1] with⟨m,i⟩|⟨h,n,m,i⟩
  ·have a:=U0 (zB f (.inr (.inl i)) 0);rw[m];go_wp2;go_ret2;exact⟨⟨0,false,rfl,a⟩,rfl⟩
  rw[m];rcases OC s[2] with⟨lo,g⟩|⟨l,hl,lo,g⟩
  ·have a:=U0 (zB f (.inr (.inr g)) 0);rw[lo];go_wp2;go_ret2;exact⟨⟨0,false,rfl,a⟩,rfl⟩
  rw[lo];have ho:=zX h l n hl;obtain⟨p,o⟩:=NH h l n hl;have v:Hid (T_ (UInt8.ofNat (16*h+l))=false->qb (UInt8.ofNat (16*h+l))=([92,s[1],s[2]]:List UInt8)):=λb=>by
   rw[xg b,p,o,i,g]
  have u:Hid (T_ (UInt8.ofNat (16*h+l))=true->∀d r,T_ d=false->s.data.toList≠qb d++r):=λb d r hd e=>by
   obtain⟨q,k⟩:=AB s f;rw[k,xg hd]at e;simp only[Zf,j_,Xi]at e;have ld:=Eu d;have e1:=Ky O0 n (e.2.1.symm.trans i.symm);have e2:=Ky O0 hl (e.2.2.1.symm.trans g.symm);have t:d=UInt8.ofNat (16*h+l):=Wi.1 (by have:=Eu (UInt8.ofNat (16*h+l));omega);rw[<- t,hd]at b;cases b
  generalize UInt8.ofNat (16*h+l)=c at*
  go_wp2_with fail
  rw[ho];refine(a2a c _).mono ?_;rintro e w'⟨rfl,hw⟩;obtain rfl:=hw.symm;cases b:T_ c
  ·have a:Hid (YG s.data.toList c true):=by
    refine⟨λ_=>⟨b,?_⟩,(λh=>by cases h)⟩;obtain⟨q,k⟩:=AB s f;exact⟨q,by rw[k,v.out b,x.out];rfl⟩
   go_wp2;go_ret2;exact⟨⟨c,true,dW rfl rfl,a⟩,rfl⟩
  have a:Hid (YG s.data.toList 0 false):=⟨(λh=>by cases h),λ_=>u.out b⟩;go_wp2;go_ret2;exact⟨⟨0,false,rfl,a⟩,rfl⟩
 have a:=U0 (zB f (.inl j) 0);have e0:((s[0].toNat:Int) !=92)=true:=by
  simp only[Yt];intro e;exact j (Wi.1 (by
   have:s[0].toNat=92:=O0;rw[this];rfl))
 go_in
 go_wp2;go_ret2;exact⟨⟨0,false,rfl,a⟩,rfl⟩
def l_(l:List UInt8):Nat->List UInt8
 | 0=>l
 | k+1=>J3 (l_ l k)
def Q_(l:List UInt8)(k:Nat):List (List UInt8):=(List.range k).map λj=>Y2 (l_ l j)
theorem Vk(l:List UInt8)(k:Nat):Q_ l (k+1)=Q_ l k++[Y2 (l_ l k)]:=by simp[Q_,Uy]
theorem Y8(l:List UInt8):(Y2 l).length<=l.length/\(J3 l).length<=l.length:=by
 unfold Y2 J3;refine⟨(List.takeWhile_sublist _).length_le,?_⟩;have:=(List.dropWhile_sublist (l:=l) (· !=32)).length_le;simp only[jk];omega
theorem Gj(l:List UInt8)(k:Nat):(l_ l k).length<=l.length:=by
 induction k with
 | zero=>exact J8 _
 | succ k ih=>exact I8 (Y8 _).2 ih
theorem Yy(n:Int)(h0:0<=n)(h1:n<=1000000):(I4 (dec n)).size<=100000001:=by rw[P5];exact EK n h0 O0
theorem og(s:BY):(I4 (J6 s.data.toList)).size<=3*s.size+2:=by
 rw[P5];have:=Qu s.data.toList;have e:s.data.toList.length=s.size:=E5;unfold J6;simp only[u_,P9,Td];omega
def Dc(c:Int)(t:BY):List UInt8:=dec c++[32]++J6 t.data.toList
theorem qW(c:Int)(t:BY):I4 (dec c)++⟨#[32]⟩++I4 (J6 t.data.toList)=I4 (Dc c t):=by
 show I4 (dec c)++I4 [32]++I4 (J6 t.data.toList)=_;rw[Qc,Qc];rfl
theorem c78(c:Int)(t:BY)(w:World)(h:0<=c)(hc1:c<=1000)(ht:t.size<=1048600):
 Calls prog 78 #[.agg #[.int .i64 c,.string t]] w λe w'=>e=.returned (.string (I4 (Dc c t)))/\Bw w w':=by
 have z1:=Yy c h O0;have z2:=og t;have o:=U0 (qW c t);have k1:¬9223372036854775807<(I4 (dec c)).size+1:=O0;have k1':¬9223372036854775807<=(I4 (dec c)).size:=O0;have k2:¬9223372036854775807<(I4 (dec c)).size+1+(I4 (J6 t.data.toList)).size:=O0
 go_in
 go_wp2_with fail
 have k:Bw w (w.alloc (.cells #[vI c,vS t] 72)):=Y6;have d:w.heap.size<(w.alloc (.cells #[vI c,vS t] 72)).heap.size:=E5;have n:(w.alloc (.cells #[vI c,vS t] 72)).cell? (aW w 0)=some (vI c):=by simp[go_sem]
 have a1:(w.alloc (.cells #[vI c,vS t] 72)).cell? (aW w 1)=some (vS t):=by simp[go_sem]
 generalize (w.alloc (.cells #[vI c,vS t] 72))=V at*;refine wp_region_held_drew (S:=(λu=>u.cell? (aW w 0)=some (vI c)/\u.cell? (aW w 1)=some (vS t))) Y1 ?_ λhHeld=>?_
 · ((try dsimp only);go_keep)
 refine p_ 0 ?_;refine p_ 1 ?_;refine p_ 4 ?_;refine p_ 5 ?_;refine rq 2 λK a=>?_;go_simp;refine(c73 (c.toNat+1) c _ h O0 (Dl _)).mono ?_;rintro e w1⟨rfl,j⟩;have b:Hid (Bw V w1):=((G5 _ _).drew).trans j;have b0:=(b.out.cell (by exact d)).trans n;have m:=(b.out.cell (by exact d)).trans a1;clear j
 go_wp2_with fail
 clear hHeld;refine xU a λhHeld=>?_;clear a K;refine sq ?_;refine rq 6 λK a=>?_;go_simp;refine(IV t _ O0).mono ?_;rintro e w2⟨rfl,i⟩;have f:=U0 i;have g:=U9 d b.out.size;have d0:=(f.out.cell (by exact g)).trans b0;have d1:=(f.out.cell (by exact g)).trans m;clear i
 go_wp2_with fail
 clear hHeld;refine xU a λhHeld=>?_;clear a K
 iterate 2 refine sq ?_
 refine wdn ?_;have l:=(J5 k b.out).trans (f.out.mono (J5 k b.out).size);clear hHeld;go_wp2;go_ret;exact⟨by rw[<- o.out];rfl,l⟩
def Unq(q t:List UInt8)(ok:Bool):Prop:=(ok=true->q=J6 t)/\(ok=false->∀l,q≠J6 l)
def RN(q:List UInt8)(e:Ending):Prop:=∃t ok,e=.returned (.tuple #[.string (I4 t),.bool ok])/\Unq q t ok
theorem ext_list(s:BY)(a b:Nat):(s.extract a b).data.toList=(s.data.toList.take b).drop a:=by
 rw[ByteArray.data_extract,Array.toList_extract,RU,RJ]
theorem drop_at(s:BY)(k:Nat)(h:k<s.size):s.data.toList.drop k=s[k]::s.data.toList.drop (k+1):=by
 rw[YA (by simpa using h)];rfl
theorem rQ(q:BY)(h2:2<=q.size)(hf:(q[0].toNat:Int)=34)(hl:(q[q.size-1].toNat:Int)=34):q.data.toList=34::((q.extract 1 (q.size-1)).data.toList++[34]):=by
 have e0:q[0]=34:=Wi.1 (by
  have:q[0].toNat=34:=O0;rw[this];rfl)
 have e1:q[q.size-1]=34:=Wi.1 (by
  have:q[q.size-1].toNat=34:=O0;rw[this];rfl)
 have hlen:q.data.toList.length=q.size:=E5;have c:q.data.toList=q.data.toList.take (q.size-1)++q.data.toList.drop (q.size-1):=(um _ _).symm;have b:=drop_at q (q.size-1) O0;rw[e1,Es (show q.data.toList.length<=q.size-1+1 by omega)]at b;have a:=drop_at q 0 O0;rw[e0]at a;simp only[OE,o9]at a;rw[ext_list];have t2:q.data.toList.take (q.size-1)=34::(q.data.toList.take (q.size-1)).drop 1:=by
  obtain⟨m,hm⟩:∃m,q.size-1=m+1:=⟨q.size-2,O0⟩;rw[hm]
  conv=>lhs;rw[a]
  rw[a];simp
 rw[<- Zf,<- t2,<- b];exact c
theorem Xv{q:List UInt8}(h:q.length<2\/q.headD 0≠34\/q.getLastD 0≠34):∀l,q≠J6 l:=by
 intro l e;subst e;rcases h with h|h|h
 ·have:=Zo l;omega
 ·exact h rfl
 apply h;show(34::(l.flatMap qb++[34])).getLastD 0=34;rw[<- Zf,MJ]
theorem WQ(s:BY)(k:Nat)(_:k<=s.size):s.data.toList=s.data.toList.take k++(s.extract k s.size).data.toList:=by
 rw[ext_list,C_ (show s.data.toList.length<=s.size by simp),um]
theorem vX(q:BY)(w:World)(hs:q.size<=1048700)(h2:2<=q.size)(hf:(q[0].toNat:Int)=34)(hl:(q[q.size-1].toNat:Int)=34):
 Calls prog 228 #[.string q] w λe w'=>RN q.data.toList e/\Bw w w':=by
 have K:=U0 (Lib.fresh_isBuilder 345 5 w);have C:=U0 (rQ q h2 hf hl);have hz:(q.extract 1 (q.size-1)).size<=1048700:=Q8
 go_in
 go_wp2_with fail
 generalize q.extract 1 (q.size-1)=I at*;go_loopw[6] (λi wr=>∃(k:Nat)(t:List UInt8),k<=I.size/\i=.int .i64 k/\t.length<=k/\Hid (I.data.toList.take k=t.flatMap qb)/\Hid (Lib.IsBuilder 345 5 w.heap.size w.heap.size (Lib.byteCells t) wr)/\Below w.heap.size w wr/\w.heap.size+1<=wr.heap.size) (λi _=>I.size-(RowKit.intOf i).toNat);exact⟨0,[],J4 _,rfl,J8 _,rfl,K,Y6,E5⟩;obtain⟨k,t,F,rfl,htk,f,o,g,y⟩:=hrel;by_cases A:k<I.size
 ·go_wp2_with fail
  refine(a2a I[k] _).mono ?_;rintro e w1⟨rfl,n⟩;obtain rfl:=n.symm;cases hp:T_ I[k]
  ·have J:=U0 hp
   go_wp2_with fail
   refine(a4V _ _ Q8).mono ?_;rintro e w1⟨⟨c,ok,rfl,z⟩,n⟩;obtain rfl:=n.symm;have D:Hid (I.data.toList=t.flatMap qb++(I.extract k I.size).data.toList):=by rw[<- f.out];exact WQ I k F
   cases ok
   ·have u:Hid (Unq q.data.toList [] false):=by
     refine⟨(λh=>by cases h),λ_ l e=>?_⟩;rw[C.out]at e;unfold J6 at e;simp only[Xi,Rz,kU]at e;rw[D.out]at e;obtain⟨r,hr,_⟩:=rH e;have a:(I.extract k I.size).data.toList=I[k]::I.data.toList.drop (k+1):=by
      rw[ext_list,C_ E5,drop_at I k A]
     cases r with
     | nil=>rw[hr]at a;cases a
     | cons d r=>
      rw[hr,Hg]at a;cases hd:T_ d
      ·exact z.2 rfl d _ hd hr
      rw[bg hd]at a;simp only[Zf,j_,Xi]at a;rw[a.1,J.out]at hd;cases hd
    go_wp2;go_ret2;exact⟨⟨[],false,rfl,u⟩,g⟩
   have B:=U0 (z.1 rfl);have E:k+3<=I.size:=by
    obtain⟨h1,r,h2⟩:=B.out;have:=l7 List.length h2;rw[xg h1]at this;simp at this;omega
   have v:Hid (I.data.toList.take (k+3)=(t++[c]).flatMap qb):=by
    obtain⟨h1,r,h2⟩:=B.out;have hl:(t.flatMap qb).length=k:=by rw[<- f.out];simp;omega
    rw[D.out,h2,<- Zr,II (by rw[P9,hl,xg h1];simp),C_ (by rw[P9,hl,xg h1];simp),Qs];simp[Hid]
   go_wp2_with fail
   refine(a1r w.heap.size w.heap.size (Lib.byteCells t) c.toNat _ o (by rw[Zq];omega) O0).mono ?_;rintro e j⟨rfl,s,b⟩;have x:Hid (Lib.IsBuilder 345 5 w.heap.size w.heap.size (Lib.byteCells (t++[c])) j):=by rw[Qa];exact s
   have p:=g.trans b;have m:=I8 y b.size;go_wp2;go_roundw;exact⟨k+3,t++[c],E,by go_num,Q8,v,x,p,m⟩;exact Z9
  have v:Hid (I.data.toList.take (k+1)=(t++[I[k]]).flatMap qb):=by
   rw[take_snoc I k A,f.out,Qs];simp[Hid,bg hp]
  go_wp2_with fail
  refine(a1r w.heap.size w.heap.size (Lib.byteCells t) _ _ o (by rw[Zq];omega) O0).mono ?_;rintro e j⟨rfl,s,b⟩;have x:Hid (Lib.IsBuilder 345 5 w.heap.size w.heap.size (Lib.byteCells (t++[I[k]])) j):=by rw[Qa];exact s
  have p:=g.trans b;have m:=I8 y b.size;go_wp2;go_roundw;exact⟨k+1,t++[I[k]],O0,by go_num,Q8,v,x,p,m⟩;exact Z9
 have u:Hid (Unq q.data.toList t true):=by
  refine⟨λ_=>?_,(λh=>by cases h)⟩;have:=f.out;rw[C_ Q8]at this;rw[C.out,this];rfl
 go_wp2_with fail
 refine(Tryz.Builder_String_any w.heap.size w.heap.size t _ o O0).mono ?_;rintro e w4⟨rfl,H⟩;go_wp2;go_ret2;exact⟨⟨t,true,rfl,u⟩,g.trans H⟩
theorem c228(q:BY)(w:World)(d:q.size<=1048700):
 Calls prog 228 #[.string q] w λe w'=>RN q.data.toList e/\Bw w w':=by
 by_cases h2:2<=q.size
 ·have hz0:0<q.size:=O0;have hz1:q.size-1<q.size:=O0;by_cases hf:(q[0].toNat:Int)=34
  ·by_cases hl:(q[q.size-1].toNat:Int)=34
   ·exact vX q w d h2 hf hl
   have a:Hid (RN q.data.toList (.returned (.tuple #[vE,.bool false]))):=by
    refine⟨[],false,rfl,(λh=>by cases h),λ_=>Xv (.inr (.inr λe=>hl ?_))⟩;have c:=drop_at q (q.size-1) O0;rw[Es (show q.data.toList.length<=q.size-1+1 by simp;omega)]at c;have:q.data.toList=q.data.toList.take (q.size-1)++[q[q.size-1]]:=by rw[<- c];exact(um _ _).symm
    rw[this]at e;simp at e;rw[e];rfl
   have e1:((q[q.size-1].toNat:Int) !=34)=true:=by simpa using hl
   go_in
   go_wp2;go_ret2;exact⟨a,G5 _ _⟩
  have a:Hid (RN q.data.toList (.returned (.tuple #[vE,.bool false]))):=by
   refine⟨[],false,rfl,(λh=>by cases h),λ_=>Xv (.inr (.inl λe=>hf ?_))⟩;have b:=drop_at q 0 O0;simp only[OE]at b;rw[b]at e;simp at e;rw[e];rfl
  have e1:((q[0].toNat:Int) !=34)=true:=by simpa using hf
  go_in
  go_wp2;go_ret2;exact⟨a,G5 _ _⟩
 have a:Hid (RN q.data.toList (.returned (.tuple #[vE,.bool false]))):=⟨[],false,rfl,(λh=>by cases h),λ_=>Xv (.inl Q8)⟩
 go_in
 go_wp2;go_ret2;exact⟨a,G5 _ _⟩
theorem a2x(K:Nat)(hK1:1<=K)(hK2:K<=10)(s:BY)(w:World)(hs:s.size<=1048700):
 Calls prog 124 #[.string s,.int .i64 K] w λe w'=>(∃g cp,e=.returned (.tuple #[.slice (some ⟨g,0,none⟩) K cp,.string (I4 (l_ s.data.toList K))])/\w.heap.size<=g/\Oc w' g (Q_ s.data.toList K))/\Bw w w':=by
 obtain⟨A,F,D,C,B⟩:=info_parts info9;have hlen:s.data.toList.length=s.size:=E5
 go_in
 go_wp2;go_loopw[0,6,7] (λJ v i wr=>∃(m:Nat)(t:ByteArray)(ss:List (List UInt8)),m<=K/\i=.int .i64 m/\J=.string t/\wr.ownsRow w.heap.size 9 1 v m (ku ss)/\Hid (t=I4 (l_ s.data.toList m)/\ss=Q_ s.data.toList m)/\Below w.heap.size w wr/\w.heap.size+1<=wr.heap.size) (λ_ _ i _=>K-(RowKit.intOf i).toNat);exact⟨0,s,[],J4 _,rfl,rfl,Tv _ #[] 0 X7 (J4 _) rfl,⟨rfl,rfl⟩,Y6,E5⟩;obtain⟨m,t,ss,hm,rfl,rfl,a,hrel,o,hz⟩:=hrel;by_cases hlt:m<K
 ·obtain⟨hT,rfl⟩:=hrel.out;have hts:t.size<=1048700:=by rw[hT,P5];have:=Gj s.data.toList m;omega
  have H:t.data.toList=l_ s.data.toList m:=by rw[hT];simp[I4]
  have p:=U0 H;have a6Z:t.data.toList.length=t.size:=E5;clear hT H;clear hrel;go_wp2;go_loop[8] (λn=>∃k:Nat,k<=t.size/\n=.int .i64 k/\Hid ((t.data.toList.take k).all (· !=32)=true)) (λn=>t.size-(RowKit.intOf n).toNat);exact⟨0,J4 _,rfl,rfl⟩;obtain⟨k,hk,rfl,ha⟩:=hrel;by_cases E:k<t.size
  ·have a7J:(k:Int)<(t.size:Int):=O0;by_cases b:t[k]=32
   ·have e1:((t[k].toNat:Int) !=32)=false:=by rw[b];rfl
    obtain⟨d,c⟩:=Zm (l:=t.data.toList) ha.out O0 (.inr (by simp[E];exact b));have y:Hid (t.extract 0 k=I4 (Y2 t.data.toList)):=Tc (by rw[Ac,d];rfl);have z:Hid (t.extract (k+1) t.size=I4 (J3 t.data.toList)):=Tc (by rw[Ac,c,C_ O0]);clear b d c
    go_wp2_with(at_builtin;refine wpList_append_own _ rfl _ _ 22 rfl w.heap.size 9 A (.string ⟨#[]⟩) 1 16 underlying22 F D C B rfl Z5 _ _ _ rfl (a.alloc _) ⟨wr.heap.size,0,none⟩ 1 1 [_] rfl rfl (cell_one_new _ _ _) (by intro u f;simp at f;subst f;rfl) (by unfold maxLen;omega) O0 Q8 ?_;intro v' I q h _)
    go_roundw
    ·have x:=(o.alloc o.size _).grown h Q8 (λj r=>(a.lt j r).1);refine⟨m+1,_,Q_ s.data.toList (m+1),O0,by go_num,rfl,?_,⟨by rw[z.out,p.out];rfl,rfl⟩,x,by have:=h.size;simp at this;omega⟩;rw[Vk,Eg,<- p.out,<- y.out];exact q
    exact Z9
   have e1:((t[k].toNat:Int) !=32)=true:=by
    simp only[Yt];intro e;exact b (Wi.1 (by
     have:t[k].toNat=32:=O0;rw[this];rfl))
   have N:Hid ((t.data.toList.take (k+1)).all (· !=32)=true):=by
    rw[take_snoc t k E,Np,ha.out];simp[Hid,b]
   clear b;go_wp2
   go_round
   exact⟨k+1,O0,by go_num,N⟩;exact Z9
  obtain⟨d,c⟩:=Zm (l:=t.data.toList) ha.out O0 (.inl O0);have y:Hid (t.extract 0 k=I4 (Y2 t.data.toList)):=Tc (by rw[Ac,d];rfl);have z:Hid (t.extract k t.size=I4 (J3 t.data.toList)):=Tc (by rw[Ac,c,C_ O0,Es O0,Es O0]);clear d c
  go_wp2_with(at_builtin;refine wpList_append_own _ rfl _ _ 22 rfl w.heap.size 9 A (.string ⟨#[]⟩) 1 16 underlying22 F D C B rfl Z5 _ _ _ rfl (a.alloc _) ⟨wr.heap.size,0,none⟩ 1 1 [_] rfl rfl (cell_one_new _ _ _) (by intro u f;simp at f;subst f;rfl) (by unfold maxLen;omega) O0 Q8 ?_;intro v' I q h _)
  go_roundw
  ·have x:=(o.alloc o.size _).grown h Q8 (λj r=>(a.lt j r).1);refine⟨m+1,_,Q_ s.data.toList (m+1),O0,by go_num,rfl,?_,⟨by rw[z.out,p.out];rfl,rfl⟩,x,by have:=h.size;simp at this;omega⟩;rw[Vk,Eg,<- p.out,<- y.out];exact q
  exact Z9
 obtain rfl:m=K:=O0;obtain⟨rfl,rfl⟩:=hrel.out;clear hrel;obtain⟨g,cp,L⟩:=Wl a O0;subst L;go_wp2;go_ret2;exact⟨⟨g,cp,rfl,(a.lt g rfl).1,Zh a (by simp[Q_])⟩,o⟩
end Go.Proofs.YtkccjgajimjjdaaGreatDoor
namespace Go.Proofs.YtkccjgajimjjdaaGreatDoor.T
open Proofs.Tryz Go.RowKit
theorem c59(n a b:Int)(w:World):
 Calls prog 59 #[.int .i64 n,.int .i64 a,.int .i64 b] w λe w'=>e=.returned (.bool (decide (a<=n/\n<=b)))/\w'=w:=by
 by_cases h1:a<=n<;>by_cases h2:n<=b
 all_goals
  go_in
  go_wp2
  all_goals go_ret
  all_goals exact⟨by simp[*],rfl⟩
theorem Pe{B i j:Nat}(h:i≠j):(⟨B,i,none⟩:Addr)≠⟨B,j,none⟩:=by intro e;injection e with _ e;exact h e
theorem Pn(u:World)(B j:Nat)(a v1 x0 x1:Value)(h0:u.cell? ⟨B,j,none⟩=some x0)(h1:u.cell? ⟨B,j+1,none⟩=some x1):
 ((u.setCell ⟨B,j,none⟩ a).setCell ⟨B,j+1,none⟩ v1).cell? ⟨B,j,none⟩=some a/\((u.setCell ⟨B,j,none⟩ a).setCell ⟨B,j+1,none⟩ v1).cell? ⟨B,j+1,none⟩=some v1:=by
 have a1:(u.setCell ⟨B,j,none⟩ a).cell? ⟨B,j+1,none⟩=some x1:=by rw[Xb _ _ _ _ (Pe O0)];exact h1
 refine⟨?_,Pg _ _ _ a1⟩;rw[Xb _ _ _ _ (Pe O0)];exact Pg _ _ _ h0
theorem a2L(x:F2)(w:World):
 Calls prog 163 #[.agg #[.string x.nm,.string x.tx],.agg #[.string x.nm,.string x.tx]] w λe w'=>e=.returned (.bool true)/\Bw w w':=by
 go_in
 go_wp2;go_ret;exact⟨rfl,Y6.alloc E5 _⟩
theorem a4t(a o:OA)(cap r:Nat)(rs:List F2)(w:World)(hl:rs.length<=1048576)(n:G6 w a rs)(m:G6 w o rs):
 Calls prog 102 #[.slice a rs.length cap,.slice o rs.length r] w λe w'=>e=.returned (.bool true)/\Bw w w':=by
 obtain⟨b,off,hc⟩:=v_ n;have t:=U0 hc;clear hc n;obtain⟨b',off',h⟩:=v_ m;have s:=U0 h;clear h m
 go_in
 go_wp2;go_loopw[5] (λi wr=>∃(k:Nat),k<=rs.length/\i=.int .i64 k/\Below w.heap.size w wr) (λi _=>rs.length-(RowKit.intOf i).toNat);exact⟨0,J4 _,rfl,G5 _ _⟩;obtain⟨k,hk,rfl,c⟩:=hrel;by_cases d:k<rs.length
 ·obtain⟨ha,l,g⟩:=Jd t.out d;obtain⟨q,j,f⟩:=Jd s.out d;subst ha;subst q;have g0:=(c.cell (by exact l)).trans (g k d).1;have g1:=(c.cell (by exact l)).trans (g k d).2;have g0':=(c.cell (by exact j)).trans (f k d).1;have g1':=(c.cell (by exact j)).trans (f k d).2;generalize rs.getD k G9=x at*;clear g f
  go_wp2_with fail
  go_region_with(go_at_call 163;refine(a2L x _).mono ?_;rintro e w1⟨rfl,p⟩)
  all_goals go_wp2
  all_goals go_roundw
  all_goals first
   | exact⟨k+1,O0,by go_num,(c.drew).trans (p.mono c.size)⟩
   | (exact Z9)
 go_wp2;go_ret;exact⟨rfl,c⟩
