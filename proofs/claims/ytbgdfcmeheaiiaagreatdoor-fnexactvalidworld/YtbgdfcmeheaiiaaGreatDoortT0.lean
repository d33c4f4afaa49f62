import Derived.Test.YtbgdfcmeheaiiaaGreatDooreQQ
import Derived.Test.YtbgdfcmeheaiiaaGreatDoorK4
import Derived.Lib.Bytealg
set_option maxRecDepth 100000
set_option linter.unusedVariables false
set_option linter.unusedSimpArgs false
set_option maxHeartbeats 8000000
namespace Go.Proofs.YtbgdfcmeheaiiaaGreatDoor
open Proofs.Tryz Go.RowKit
def hx(b:UInt8):Int:=if 48<=(b.toNat:Int)/\(b.toNat:Int)<=57 then(b.toNat:Int)-48 else if 97<=(b.toNat:Int)/\(b.toNat:Int)<=102 then(b.toNat:Int)-97+10 else -1
theorem VY{a b:Int}(h:a=b):Ending.returned (.int .i64 a)=.returned (.int .i64 b):=by rw[h]
theorem qM(c:UInt8)(w:World):
 Calls prog 205 #[.int .u8 c.toNat] w λe w'=>e=.returned (.int .i64 (hx c))/\w'=w:=by
 have hc:=ou c;have a:Hid (hx c=if 48<=(c.toNat:Int)/\(c.toNat:Int)<=57 then(c.toNat:Int)-48 else if 97<=(c.toNat:Int)/\(c.toNat:Int)<=102 then(c.toNat:Int)-97+10 else -1):=rfl;generalize (c.toNat:Int)=n at*
 go_in
 go_wp2
 all_goals go_ret
 all_goals refine⟨VY ?_,rfl⟩
 all_goals rw[a.out]
 all_goals(repeat' split)
 all_goals omega
theorem fD(b:UInt8):(Lib.indexByte hexL b=-1/\∀n,n<16->hexL.getD n 0≠b)\/∃n:Nat,n<16/\Lib.indexByte hexL b=n/\hexL.getD n 0=b:=by
 have hge:=Lib.indexByte_ge hexL b;by_cases h:Lib.indexByte hexL b=-1
 ·refine .inl ⟨h,λn a e=>Lib.indexByte_none h n ?_⟩;have hl:n<hexL.length:=a;rw[<- e];simp[List.getD,D9 hl]
 obtain⟨o,ho⟩:∃o:Nat,Lib.indexByte hexL b=o:=⟨(Lib.indexByte hexL b).toNat,O0⟩;obtain⟨h1,_⟩:=Lib.indexByte_some ho;have hl:o<hexL.length:=by
  rcases P7 o hexL.length with h|h
  ·exact h
  rw[Mc h]at h1;cases h1
 exact .inr ⟨o,hl,ho,by simp[List.getD,h1]⟩
theorem a1U(b:UInt8)(w:World):
 Calls prog 327 #[.string ⟨#[48,49,50,51,52,53,54,55,56,57,97,98,99,100,101,102]⟩,.int .u8 b.toNat] w λe w'=>e=.returned (.int .i64 (Lib.indexByte hexL b))/\w'=w:=by
 refine(Tryz.strings_IndexByte _ _ w).mono ?_;rintro e w'⟨rfl,rfl⟩;refine⟨VY ?_,rfl⟩;have e1:(b.toNat:Int).toNat.toUInt8=b:=O4;rw[e1];rfl
theorem TU{a b:Int}{x y:Bool}(h:a=b)(c:x=y):Ending.returned (.tuple #[.int .u8 a,.bool x])=.returned (.tuple #[.int .u8 b,.bool y]):=by rw[h,c]
def nH(l:List UInt8)(c:UInt8)(ok:Bool):Prop:=(ok=true->M_ c=false/\∃r,l=qb c++r)/\(ok=false->∀d r,M_ d=false->l≠qb d++r)
theorem YP:∀h l:Fin 16,bits BinOp.or IntKind.i64 (((h.val:Nat):Int)*16) ((l.val:Nat):Int)=16*((h.val:Nat):Int)+((l.val:Nat):Int):=by decide +kernel
theorem gY(h l:Nat)(a:h<16)(hl:l<16):bits BinOp.or IntKind.i64 ((h:Int)*16) (l:Int) % 256=((UInt8.ofNat (16*h+l)).toNat:Int):=by
 have:=YP ⟨h,a⟩ ⟨l,hl⟩;simp only at this;rw[this];simp
theorem rG(h l:Nat)(hh:h<16)(hl:l<16):(UInt8.ofNat (16*h+l)).toNat / 16=h/\(UInt8.ofNat (16*h+l)).toNat % 16=l:=by
 have e:(UInt8.ofNat (16*h+l)).toNat=16*h+l:=X7;rw[e];omega
theorem aB(s:BY)(h:2<s.size):∃r,s.data.toList=s[0]::s[1]::s[2]::r:=by
 have hl:s.data.toList.length=s.size:=O4;have g:∀(k:Nat)(d:k<s.size),s.data.toList[k]'(by simpa using d)=s[k]:=λk d=>by simp[aJ]
 rcases hd:s.data.toList with _|⟨a,_|⟨b,_|⟨c,r⟩⟩⟩
 ·rw[hd]at hl;simp at hl;omega
 ·rw[hd]at hl;simp at hl;omega
 ·rw[hd]at hl;simp at hl;omega
 have g0:=g 0 O0;have g1:=g 1 O0;have g2:=g 2 h;simp only[hd,List.getElem_cons_zero,List.getElem_cons_succ]at g0 g1 g2;exact⟨r,by rw[<- g0,<- g1,<- g2]⟩
theorem jB{s:BY}(h:2<s.size)(a:s[0]≠92\/(∀n,n<16->hexL.getD n 0≠s[1])\/(∀n,n<16->hexL.getD n 0≠s[2]))(c:UInt8):nH s.data.toList c false:=by
 refine⟨(λh=>by cases h),λ_ d r hd e=>?_⟩;obtain⟨q,b⟩:=aB s h;rw[b,Uf hd]at e;simp only[Ff,Qb,qi]at e;have ld:=ou d;rcases a with a|a|a
 ·exact a e.1
 ·exact a _ O0 e.2.1.symm
 exact a _ O0 e.2.2.1.symm
def a3H(l:List UInt8)(e:Ending):Prop:=∃c ok,e=.returned (.tuple #[.int .u8 (c:UInt8).toNat,.bool ok])/\nH l c ok
theorem a5d(s:BY)(w:World)(hs:s.size<=1048700):
 Calls prog 290 #[.string s] w λe w'=>a3H s.data.toList e/\w'=w:=by
 by_cases h3:s.size<3
 ·have a:Hid (nH s.data.toList 0 false):=by
   refine⟨(λh=>by cases h),λ_ d r hd e=>?_⟩;have:=U6 List.length e;rw[Uf hd]at this;simp at this;omega
  go_in
  go_wp2;go_ret2;exact⟨⟨0,false,rfl,a⟩,rfl⟩
 have hz0:0<s.size:=O0;have hz1:1<s.size:=O0;have f:2<s.size:=O0;by_cases j:s[0]=92
 ·have e0:((s[0].toNat:Int) !=92)=false:=by rw[j];rfl
  have x:=U0 j
  go_in
  go_wp2_with fail
  refine(a1U _ _).mono ?_;rintro e w'⟨rfl,rfl⟩
  go_wp2_with fail
  refine(a1U _ _).mono ?_;rintro e w'⟨rfl,rfl⟩;rcases fD s[1] with⟨m,i⟩|⟨h,n,m,i⟩
  ·have a:=U0 (jB f (.inr (.inl i)) 0);rw[m];go_wp2;go_ret2;exact⟨⟨0,false,rfl,a⟩,rfl⟩
  rw[m];rcases fD s[2] with⟨lo,g⟩|⟨l,hl,lo,g⟩
  ·have a:=U0 (jB f (.inr (.inr g)) 0);rw[lo];go_wp2;go_ret2;exact⟨⟨0,false,rfl,a⟩,rfl⟩
  rw[lo];have ho:=gY h l n hl;obtain⟨p,o⟩:=rG h l n hl;have v:Hid (M_ (UInt8.ofNat (16*h+l))=false->qb (UInt8.ofNat (16*h+l))=([92,s[1],s[2]]:List UInt8)):=λb=>by
   rw[Uf b,p,o,i,g]
  have u:Hid (M_ (UInt8.ofNat (16*h+l))=true->∀d r,M_ d=false->s.data.toList≠qb d++r):=λb d r hd e=>by
   obtain⟨q,k⟩:=aB s f;rw[k,Uf hd]at e;simp only[Ff,Qb,qi]at e;have ld:=ou d;have e1:=jy O0 n (e.2.1.symm.trans i.symm);have e2:=jy O0 hl (e.2.2.1.symm.trans g.symm);have t:d=UInt8.ofNat (16*h+l):=Zh.1 (by have:=ou (UInt8.ofNat (16*h+l));omega);rw[<- t,hd]at b;cases b
  generalize UInt8.ofNat (16*h+l)=c at*
  go_wp2_with fail
  rw[ho];refine(a1A c _).mono ?_;rintro e w'⟨rfl,hw⟩;obtain rfl:=hw.symm;cases b:M_ c
  ·have a:Hid (nH s.data.toList c true):=by
    refine⟨λ_=>⟨b,?_⟩,(λh=>by cases h)⟩;obtain⟨q,k⟩:=aB s f;exact⟨q,by rw[k,v.out b,x.out];rfl⟩
   go_wp2;go_ret2;exact⟨⟨c,true,TU rfl rfl,a⟩,rfl⟩
  have a:Hid (nH s.data.toList 0 false):=⟨(λh=>by cases h),λ_=>u.out b⟩;go_wp2;go_ret2;exact⟨⟨0,false,rfl,a⟩,rfl⟩
 have a:=U0 (jB f (.inl j) 0);have e0:((s[0].toNat:Int) !=92)=true:=by
  simp only[Qr];intro e;exact j (Zh.1 (by
   have:s[0].toNat=92:=O0;rw[this];rfl))
 go_in
 go_wp2;go_ret2;exact⟨⟨0,false,rfl,a⟩,rfl⟩
def Unq(q t:List UInt8)(ok:Bool):Prop:=(ok=true->q=J5 t)/\(ok=false->∀l,q≠J5 l)
def UN(q:List UInt8)(e:Ending):Prop:=∃t ok,e=.returned (.tuple #[.string (Y2 t),.bool ok])/\Unq q t ok
theorem ext_list(s:BY)(a b:Nat):(s.extract a b).data.toList=(s.data.toList.take b).drop a:=by
 rw[ByteArray.data_extract,Array.toList_extract,lQ,QI]
theorem drop_at(s:BY)(k:Nat)(h:k<s.size):s.data.toList.drop k=s[k]::s.data.toList.drop (k+1):=by
 rw[jA (by simpa using h)];rfl
theorem xR(q:BY)(h2:2<=q.size)(hf:(q[0].toNat:Int)=34)(hl:(q[q.size-1].toNat:Int)=34):q.data.toList=34::((q.extract 1 (q.size-1)).data.toList++[34]):=by
 have e0:q[0]=34:=Zh.1 (by
  have:q[0].toNat=34:=O0;rw[this];rfl)
 have e1:q[q.size-1]=34:=Zh.1 (by
  have:q[q.size-1].toNat=34:=O0;rw[this];rfl)
 have hlen:q.data.toList.length=q.size:=O4;have c:q.data.toList=q.data.toList.take (q.size-1)++q.data.toList.drop (q.size-1):=(Qk _ _).symm;have b:=drop_at q (q.size-1) O0;rw[e1,Yq (show q.data.toList.length<=q.size-1+1 by omega)]at b;have a:=drop_at q 0 O0;rw[e0]at a;simp only[zD,l7]at a;rw[ext_list];have t2:q.data.toList.take (q.size-1)=34::(q.data.toList.take (q.size-1)).drop 1:=by
  obtain⟨m,hm⟩:∃m,q.size-1=m+1:=⟨q.size-2,O0⟩;rw[hm]
  conv=>lhs;rw[a]
  rw[a];simp
 rw[<- Ff,<- t2,<- b];exact c
theorem Sv{q:List UInt8}(h:q.length<2\/q.headD 0≠34\/q.getLastD 0≠34):∀l,q≠J5 l:=by
 intro l e;subst e;rcases h with h|h|h
 ·have:=Gn l;omega
 ·exact h rfl
 apply h;show(34::(l.flatMap qb++[34])).getLastD 0=34;rw[<- Ff,CJ]
theorem zQ(s:BY)(k:Nat)(_:k<=s.size):s.data.toList=s.data.toList.take k++(s.extract k s.size).data.toList:=by
 rw[ext_list,p_ (show s.data.toList.length<=s.size by simp),Qk]
theorem NV(q:BY)(w:World)(hs:q.size<=1048700)(h2:2<=q.size)(hf:(q[0].toNat:Int)=34)(hl:(q[q.size-1].toNat:Int)=34):
 Calls prog 235 #[.string q] w λe w'=>UN q.data.toList e/\Bw w w':=by
 have L:=U0 (Lib.fresh_isBuilder 415 5 w);have C:=U0 (xR q h2 hf hl);have hz:(q.extract 1 (q.size-1)).size<=1048700:=X7
 go_in
 go_wp2_with fail
 generalize q.extract 1 (q.size-1)=I at*;go_loopw[6] (λi wr=>∃(k:Nat)(t:List UInt8),k<=I.size/\i=.int .i64 k/\t.length<=k/\Hid (I.data.toList.take k=t.flatMap qb)/\Hid (Lib.IsBuilder 415 5 w.heap.size w.heap.size (Lib.byteCells t) wr)/\Below w.heap.size w wr/\w.heap.size+1<=wr.heap.size) (λi _=>I.size-(RowKit.intOf i).toNat);exact⟨0,[],I4 _,rfl,J9 _,rfl,L,P6,O4⟩;obtain⟨k,t,H,rfl,htk,f,o,g,y⟩:=hrel;by_cases A:k<I.size
 ·go_wp2_with fail
  refine(a1A I[k] _).mono ?_;rintro e E⟨rfl,n⟩;obtain rfl:=n.symm;cases hp:M_ I[k]
  ·have K:=U0 hp
   go_wp2_with fail
   refine(a5d _ _ X7).mono ?_;rintro e E⟨⟨c,ok,rfl,z⟩,n⟩;obtain rfl:=n.symm;have D:Hid (I.data.toList=t.flatMap qb++(I.extract k I.size).data.toList):=by rw[<- f.out];exact zQ I k H
   cases ok
   ·have u:Hid (Unq q.data.toList [] false):=by
     refine⟨(λh=>by cases h),λ_ l e=>?_⟩;rw[C.out]at e;unfold J5 at e;simp only[qi,Ey,xQ]at e;rw[D.out]at e;obtain⟨r,hr,_⟩:=gG e;have a:(I.extract k I.size).data.toList=I[k]::I.data.toList.drop (k+1):=by
      rw[ext_list,p_ O4,drop_at I k A]
     cases r with
     | nil=>rw[hr]at a;cases a
     | cons d r=>
      rw[hr,Ag]at a;cases hd:M_ d
      ·exact z.2 rfl d _ hd hr
      rw[Df hd]at a;simp only[Ff,Qb,qi]at a;rw[a.1,K.out]at hd;cases hd
    go_wp2;go_ret2;exact⟨⟨[],false,rfl,u⟩,g⟩
   have B:=U0 (z.1 rfl);have F:k+3<=I.size:=by
    obtain⟨h1,r,h2⟩:=B.out;have:=U6 List.length h2;rw[Uf h1]at this;simp at this;omega
   have v:Hid (I.data.toList.take (k+3)=(t++[c]).flatMap qb):=by
    obtain⟨h1,r,h2⟩:=B.out;have hl:(t.flatMap qb).length=k:=by rw[<- f.out];simp;omega
    rw[D.out,h2,<- Jq,fJ (by rw[L9,hl,Uf h1];simp),p_ (by rw[L9,hl,Uf h1];simp),Vq];simp[Hid]
   go_wp2_with fail
   refine(a1H w.heap.size w.heap.size (Lib.byteCells t) c.toNat _ o (by rw[zq];omega) O0).mono ?_;rintro e j⟨rfl,s,b⟩;have x:Hid (Lib.IsBuilder 415 5 w.heap.size w.heap.size (Lib.byteCells (t++[c])) j):=by rw[S_];exact s
   have p:=g.trans b;have m:=Q8 y b.size;go_wp2;go_roundw;exact⟨k+3,t++[c],F,by go_num,X7,v,x,p,m⟩;exact P9
  have v:Hid (I.data.toList.take (k+1)=(t++[I[k]]).flatMap qb):=by
   rw[take_snoc I k A,f.out,Vq];simp[Hid,Df hp]
  go_wp2_with fail
  refine(a1H w.heap.size w.heap.size (Lib.byteCells t) _ _ o (by rw[zq];omega) O0).mono ?_;rintro e j⟨rfl,s,b⟩;have x:Hid (Lib.IsBuilder 415 5 w.heap.size w.heap.size (Lib.byteCells (t++[I[k]])) j):=by rw[S_];exact s
  have p:=g.trans b;have m:=Q8 y b.size;go_wp2;go_roundw;exact⟨k+1,t++[I[k]],O0,by go_num,X7,v,x,p,m⟩;exact P9
 have u:Hid (Unq q.data.toList t true):=by
  refine⟨λ_=>?_,(λh=>by cases h)⟩;have:=f.out;rw[p_ X7]at this;rw[C.out,this];rfl
 go_wp2_with fail
 refine(Tryz.Builder_String_any w.heap.size w.heap.size t _ o O0).mono ?_;rintro e w4⟨rfl,J⟩;go_wp2;go_ret2;exact⟨⟨t,true,rfl,u⟩,g.trans J⟩
theorem a3F(q:BY)(w:World)(d:q.size<=1048700):
 Calls prog 235 #[.string q] w λe w'=>UN q.data.toList e/\Bw w w':=by
 by_cases h2:2<=q.size
 ·have hz0:0<q.size:=O0;have hz1:q.size-1<q.size:=O0;by_cases hf:(q[0].toNat:Int)=34
  ·by_cases hl:(q[q.size-1].toNat:Int)=34
   ·exact NV q w d h2 hf hl
   have a:Hid (UN q.data.toList (.returned (.tuple #[vE,.bool false]))):=by
    refine⟨[],false,rfl,(λh=>by cases h),λ_=>Sv (.inr (.inr λe=>hl ?_))⟩;have c:=drop_at q (q.size-1) O0;rw[Yq (show q.data.toList.length<=q.size-1+1 by simp;omega)]at c;have:q.data.toList=q.data.toList.take (q.size-1)++[q[q.size-1]]:=by rw[<- c];exact(Qk _ _).symm
    rw[this]at e;simp at e;rw[e];rfl
   have e1:((q[q.size-1].toNat:Int) !=34)=true:=by simpa using hl
   go_in
   go_wp2;go_ret2;exact⟨a,J4 _ _⟩
  have a:Hid (UN q.data.toList (.returned (.tuple #[vE,.bool false]))):=by
   refine⟨[],false,rfl,(λh=>by cases h),λ_=>Sv (.inr (.inl λe=>hf ?_))⟩;have b:=drop_at q 0 O0;simp only[zD]at b;rw[b]at e;simp at e;rw[e];rfl
  have e1:((q[0].toNat:Int) !=34)=true:=by simpa using hf
  go_in
  go_wp2;go_ret2;exact⟨a,J4 _ _⟩
 have a:Hid (UN q.data.toList (.returned (.tuple #[vE,.bool false]))):=⟨[],false,rfl,(λh=>by cases h),λ_=>Sv (.inl X7)⟩
 go_in
 go_wp2;go_ret2;exact⟨a,J4 _ _⟩
end Go.Proofs.YtbgdfcmeheaiiaaGreatDoor
namespace Go.Proofs.YtbgdfcmeheaiiaaGreatDoor.T
open Proofs.Tryz Go.RowKit
variable{w:World}{a:OA}{v:Bool}{t:BY}{h i j:Nat}
theorem Na(q:Nat)(h:q<1048577):IntKind.i64.wrap (q:Int)=(q:Int):=by
 have h1:(q:Int) % 2^64=q:=O0;simp only[IntKind.wrap,IntKind.bits,IntKind.signed,h1];rw[Y7 X7]
structure F2 where
 nm:BY
 tx:BY
def P8:F2:=⟨⟨#[]⟩,⟨#[]⟩⟩
def U5(w:World)(a:OA)(rs:List F2):Prop:=
 rs=[]\/∃b off,a=some ⟨b,off,none⟩/\b<w.heap.size/\∀i,i<rs.length->w.cell? ⟨b,off+i*2,none⟩=some (.string (rs.getD i P8).nm)/\w.cell? ⟨b,off+i*2+1,none⟩=some (.string (rs.getD i P8).tx)
theorem o_{rs:List F2}(h:U5 w a rs):∃b off,(rs=[]\/(a=some ⟨b,off,none⟩/\b<w.heap.size/\∀i,i<rs.length->w.cell? ⟨b,off+i*2,none⟩=some (.string (rs.getD i P8).nm)/\w.cell? ⟨b,off+i*2+1,none⟩=some (.string (rs.getD i P8).tx))):=by
 rcases h with h|⟨b,off,h⟩
 ·exact⟨0,0,.inl h⟩
 exact⟨b,off,.inr h⟩
theorem X4{w':World}{rs:List F2}(h:U5 w a rs)(c:Bw w w'):U5 w' a rs:=by
 rcases h with h|⟨b,off,h1,h2,e⟩
 ·exact .inl h
 exact .inr ⟨b,off,h1,G9 h2 c.size,λi d=>by rw[c.cell (by exact h2),c.cell (by exact h2)];exact e i d⟩
def F2.le(x:F2)(B:Nat):Prop:=x.nm.size<=B/\x.tx.size<=B
theorem Uy(u:World)(B j m:Nat)(b a:Value)(h0:m≠j)(h1:m≠j+1):((u.setCell ⟨B,j,none⟩ b).setCell ⟨B,j+1,none⟩ a).cell? ⟨B,m,none⟩=u.cell? ⟨B,m,none⟩:=by
 rw[Qa _ _ _ _ (Ud (Ne.symm h1)),Qa _ _ _ _ (Ud (Ne.symm h0))]
theorem Vp:(prog.info? 166).map (λi=>(i.zero,i.size,i.bytes))=some (some (.agg #[.string ⟨#[]⟩,.string ⟨#[]⟩]),2,32):=Y0
def T_(x:F2):Bool:=Y5 x.nm.data.toList&&decide ((x.tx.size:Int)<=300)
theorem XU(x:F2)(w:World)(b:x.le 1048700):
 Calls prog 207 #[.agg #[.string x.nm,.string x.tx]] w λe w'=>e=.returned (.bool (T_ x))/\Bw w w':=by
 have a:Hid (T_ x=(Y5 x.nm.data.toList&&decide ((x.tx.size:Int)<=300))):=rfl;obtain⟨h1,h2⟩:=b
 go_in
 go_wp2_with fail
 refine(EM _ _ h1).mono ?_;rintro e w1⟨rfl,rfl⟩;cases hn:Y5 x.nm.data.toList
 all_goals
  rw[hn]at a;go_wp2
  all_goals go_ret
  all_goals exact⟨O9 (by rw[a.out];simp),P6⟩
theorem xW(x:F2)(w:World)(b:x.le 1048700):
 Calls prog 188 #[.agg #[.string x.nm,.string x.tx]] w λe w'=>e=.returned (.bool (T_ x))/\Bw w w':=by
 have a:Hid (T_ x=(Y5 x.nm.data.toList&&decide ((x.tx.size:Int)<=300))):=rfl;obtain⟨h1,h2⟩:=b
 go_in
 go_wp2_with fail
 refine(c124 _ _ h1).mono ?_;rintro e w1⟨rfl,rfl⟩;cases hn:Y5 x.nm.data.toList
 all_goals
  rw[hn]at a;go_wp2
  all_goals go_ret
  all_goals exact⟨O9 (by rw[a.out];simp),P6⟩
theorem a1m{x:F2}(hv:T_ x=v)(w:World)(a:x.le 1048700):
 Calls prog 207 #[.agg #[.string x.nm,.string x.tx]] w λe w'=>e=.returned (.bool v)/\Bw w w':=hv▸XU x w a
theorem a2k{x:F2}(hv:T_ x=v)(w:World)(a:x.le 1048700):
 Calls prog 188 #[.agg #[.string x.nm,.string x.tx]] w λe w'=>e=.returned (.bool v)/\Bw w w':=hv▸xW x w a
def Af(fs:List F2)(k:Nat):Bool:=T_ (fs.getD k P8)&&(decide (k=0)||Op.bytesLess (fs.getD (k-1) P8).nm.toList (fs.getD k P8).nm.toList)
def A_(fs:List F2):Prop:=fs.length<=40/\∀k,k<fs.length->Af fs k=true
theorem step_up{fs:List F2}{k:Nat}(h:Hid (∀j,j<k->Af fs j=true))(e:Hid (Af fs k=true)):Hid (∀j,j<k+1->Af fs j=true):=λj hj=>by
 rcases P7 j k with a|a
 ·exact h.out j a
 obtain rfl:j=k:=O0;exact e.out
theorem YZ(a:OA)(m:Nat)(fs:List F2)(w:World)(hl:fs.length<=1048576)(r:∀i,(fs.getD i P8).le 1048576)(H:U5 w a fs):
 Calls prog 209 #[.agg #[.slice a fs.length m]] w λe w'=>(∃b:Bool,e=.returned (.bool b)/\(b=true↔A_ fs))/\Bw w w':=by
 obtain⟨b,off,hc⟩:=o_ H;have L:=U0 hc;by_cases hbig:40<fs.length
 ·go_in
  go_wp2;go_ret;exact⟨⟨false,rfl,by simp[A_];omega⟩,P6⟩
 go_in
 go_wp2;go_loopw[3] (λi wr=>∃k:Nat,k<=fs.length/\i=.int .i64 k/\Below w.heap.size w wr/\wr.cell? ⟨w.heap.size,0,none⟩=some (.slice a fs.length m)/\w.heap.size+1<=wr.heap.size/\Hid (∀j,j<k->Af fs j=true)) (λi _=>fs.length-(RowKit.intOf i).toNat);exact⟨0,I4 _,rfl,P6,O4,O4,λj h=>absurd h (U7 _)⟩;obtain⟨k,hk,rfl,c,z,C,s⟩:=hrel;by_cases f:k<fs.length;rotate_left
 ·have n:Hid (A_ fs):=⟨O0,λj hj=>s.out j O0⟩;go_wp2;go_ret;exact⟨⟨true,rfl,by simp only[true_iff];exact n.out⟩,c⟩
 obtain⟨ha,l,o⟩:=Zb L.out f;subst ha;have N:=U0 c;have g0:=(c.cell (by exact l)).trans (o k f).1;have g1:=(c.cell (by exact l)).trans (o k f).2;have p:=G9 l c.size;have D:Hid ((fs.getD k P8).le 1048700):=⟨Q8 (r k).1 O0,Q8 (r k).2 O0⟩;rcases Ku k with h0|h0
 focus
  subst h0;have g:Hid (Af fs 0=T_ (fs.getD 0 P8)):=by simp[Af,Hid]
  simp only[Ov,Iq]at g0 g1;generalize fs.getD 0 P8=x at*;cases hx:T_ x
 rotate_left 2
 focus
  obtain⟨q,hq⟩:∃q,q+1=k:=⟨k-1,O0⟩;have g2:=(c.cell (by exact l)).trans (o q O0).1;have g:Hid (Af fs k=(T_ (fs.getD k P8)&&Op.bytesLess (fs.getD q P8).nm.toList (fs.getD k P8).nm.toList)):=by
   have e1:decide (k=0)=false:=y9 O0;have J:k-1=q:=O0;unfold Af;rw[e1,J];rfl
  have E:(0:Int)<(k:Int):=O0;have hm1:=m_ E;generalize fs.getD k P8=x at*;generalize fs.getD q P8=y at*;have hwr:IntKind.i64.wrap ((k:Int)-1)=(q:Int):=by rw[show(k:Int)-1=(q:Int) by omega];exact Na q O0
  have hql:(q:Int)<(fs.length:Int):=O0;cases hx:T_ x
  all_goals cases hy:Op.bytesLess y.nm.toList x.nm.toList
 all_goals
  go_wp2_with fail
  first|refine wp_region_held_drew (S:=(λu=>u.cell? ⟨w.heap.size,0,none⟩=some (vL (some ⟨b,off,none⟩) fs.length m)/\u.cell? ⟨b,off+k*2,none⟩=some (vS x.nm)/\u.cell? ⟨b,off+k*2+1,none⟩=some (vS x.tx)/\u.cell? ⟨b,off+q*2,none⟩=some (vS y.nm))) Y0 ?_ λhH=>?_|refine wp_region_held_drew (S:=(λu=>u.cell? ⟨w.heap.size,0,none⟩=some (vL (some ⟨b,off,none⟩) fs.length m)/\u.cell? ⟨b,off,none⟩=some (vS x.nm)/\u.cell? ⟨b,off+1,none⟩=some (vS x.tx))) Y0 ?_ λhH=>?_
  · ((try dsimp only);go_keep)
  iterate 5 refine sq ?_
  refine rq 5 λK I=>?_;go_simp;refine(a1m hx _ D).mono ?_;rintro e v⟨rfl,F⟩;have d:Hid (Bw wr v):=((J4 _ _).drew).trans F;have A:=(d.out.cell (by show w.heap.size<wr.heap.size;omega)).trans z;have p1:=(d.out.cell (by exact p)).trans g0;have p2:=(d.out.cell (by exact p)).trans g1
  try have p3:=(d.out.cell (by exact p)).trans g2
  go_wp2_with fail
  refine I _ _ ?_ λhH=>?_
  · ((try dsimp only);go_keep)
  iterate 21 refine sq ?_
  refine wdn ?_;have t:=P5 N d;have B:=Q8 C d.out.size
  first|rw[hx,hy]at g|rw[hx]at g
  first
  |(have n:=step_up s g
    go_wp2;go_roundw;exact⟨_,f,by go_num,t,A,B,n⟩;exact P9)
  |(clear hH
    go_wp2;go_ret;exact⟨⟨false,rfl,by simp only[Bool.false_eq_true,false_iff];intro h;have:=h.2 _ f;rw[g.out]at this;cases this⟩,t⟩)
theorem a0Y(a:OA)(m:Nat)(fs:List F2)(w:World)(hl:fs.length<=1048576)(s:∀i,(fs.getD i P8).le 1048576)(P:U5 w a fs):
 Calls prog 128 #[.agg #[.slice a fs.length m]] w λe w'=>(∃b:Bool,e=.returned (.bool b)/\(b=true↔A_ fs))/\Bw w w':=by
 obtain⟨b,off,hc⟩:=o_ P;have X:=U0 hc;by_cases hbig:40<fs.length
 ·go_in
  go_wp2;go_ret;exact⟨⟨false,rfl,by simp[A_];omega⟩,P6⟩
 go_in
 go_wp2;go_loopw[12] (λi wr=>∃k:Nat,k<=fs.length/\i=.int .i64 k/\Below w.heap.size w wr/\wr.cell? ⟨w.heap.size,0,none⟩=some (.slice a fs.length m)/\w.heap.size+1<=wr.heap.size/\Hid (∀j,j<k->Af fs j=true)) (λi _=>fs.length-(RowKit.intOf i).toNat);exact⟨0,I4 _,rfl,P6,O4,O4,λj h=>absurd h (U7 _)⟩;obtain⟨k,hk,rfl,c,D,hz,t⟩:=hrel;by_cases f:k<fs.length;rotate_left
 ·have n:Hid (A_ fs):=⟨O0,λj hj=>t.out j O0⟩;go_wp2;go_ret;exact⟨⟨true,rfl,by simp only[true_iff];exact n.out⟩,c⟩
 obtain⟨ha,l,o⟩:=Zb X.out f;subst ha;have A:=U0 c;have g0:=(c.cell (by exact l)).trans (o k f).1;have g1:=(c.cell (by exact l)).trans (o k f).2;have L:=G9 l c.size;have I:Hid ((fs.getD k P8).le 1048700):=⟨Q8 (s k).1 O0,Q8 (s k).2 O0⟩;rcases Ku k with h0|h0
 focus
  subst h0;have g:Hid (Af fs 0=T_ (fs.getD 0 P8)):=by simp[Af,Hid]
  simp only[Ov,Iq]at g0 g1;generalize fs.getD 0 P8=x at*;cases hx:T_ x
 rotate_left 2
 focus
  obtain⟨q,hq⟩:∃q,q+1=k:=⟨k-1,O0⟩;have g2:=(c.cell (by exact l)).trans (o q O0).1;have g:Hid (Af fs k=(T_ (fs.getD k P8)&&Op.bytesLess (fs.getD q P8).nm.toList (fs.getD k P8).nm.toList)):=by
   have e1:decide (k=0)=false:=y9 O0;have V:k-1=q:=O0;unfold Af;rw[e1,V];rfl
  have J:(0:Int)<(k:Int):=O0;have hm1:=m_ J;generalize fs.getD k P8=x at*;generalize fs.getD q P8=y at*;have hwr:IntKind.i64.wrap ((k:Int)-1)=(q:Int):=by rw[show(k:Int)-1=(q:Int) by omega];exact Na q O0
  have hql:(q:Int)<(fs.length:Int):=O0;cases hx:T_ x
  all_goals cases hy:Op.bytesLess y.nm.toList x.nm.toList
 all_goals
  go_wp2_with fail
  have p:Hid (Bw wr (wr.alloc (.cells #[vS x.nm,vS x.tx] 166))):=P6;have C:=(p.out.cell (by show w.heap.size<wr.heap.size;omega)).trans D
  try have B:=(p.out.cell (by exact L)).trans g2
  have U:(wr.alloc (.cells #[vS x.nm,vS x.tx] 166)).cell? ⟨wr.heap.size,0,none⟩=some (vS x.nm):=O4;have R:(wr.alloc (.cells #[vS x.nm,vS x.tx] 166)).cell? ⟨wr.heap.size,1,none⟩=some (vS x.tx):=O4;have v:wr.heap.size<(wr.alloc (.cells #[vS x.nm,vS x.tx] 166)).heap.size:=O4;generalize (wr.alloc (.cells #[vS x.nm,vS x.tx] 166))=W at*;have H:w.heap.size<W.heap.size:=O0;have N:b<W.heap.size:=O0
  first|refine wp_region_held_drew (S:=(λu=>u.cell? ⟨w.heap.size,0,none⟩=some (vL (some ⟨b,off,none⟩) fs.length m)/\u.cell? ⟨wr.heap.size,0,none⟩=some (vS x.nm)/\u.cell? ⟨wr.heap.size,1,none⟩=some (vS x.tx)/\u.cell? ⟨b,off+q*2,none⟩=some (vS y.nm))) Y0 ?_ λhH=>?_|refine wp_region_held_drew (S:=(λu=>u.cell? ⟨w.heap.size,0,none⟩=some (vL (some ⟨b,off,none⟩) fs.length m)/\u.cell? ⟨wr.heap.size,0,none⟩=some (vS x.nm)/\u.cell? ⟨wr.heap.size,1,none⟩=some (vS x.tx))) Y0 ?_ λhH=>?_
  · ((try dsimp only);go_keep)
  iterate 1 refine sq ?_
  refine rq 1 λK Q=>?_;go_simp;refine(a2k hx _ I).mono ?_;rintro e r⟨rfl,O⟩;have d:Hid (Bw W r):=((J4 _ _).drew).trans O;have E:=(d.out.cell (by exact H)).trans C;have p1:=(d.out.cell (by exact v)).trans U;have p2:=(d.out.cell (by exact v)).trans R
  try have p3:=(d.out.cell (by exact N)).trans B
  go_wp2_with fail
  refine Q _ _ ?_ λhH=>?_
  · ((try dsimp only);go_keep)
  iterate 17 refine sq ?_
  refine wdn ?_;have z:=A.out.trans ((p.out.trans (d.out.mono O0)).mono A.out.size);have F:w.heap.size+1<=r.heap.size:=by have:=d.out.size;omega
  first|rw[hx,hy]at g|rw[hx]at g
  first
  |(have n:=step_up t g
    go_wp2;go_roundw;exact⟨_,f,by go_num,z,E,F,n⟩;exact P9)
  |(clear hH
    go_wp2;go_ret;exact⟨⟨false,rfl,by simp only[Bool.false_eq_true,false_iff];intro h;have:=h.2 _ f;rw[g.out]at this;cases this⟩,z⟩)
theorem Pq{g:Nat}{is:List F2}{q:Addr}{v:Value}(h:U5 w (some ⟨g,0,none⟩) is)(c:q.block≠g):U5 (w.setCell q v) (some ⟨g,0,none⟩) is:=by
 rcases h with h|⟨b,off,h1,h2,k⟩
 ·exact .inl h
 have f:b=g:=by injection h1 with h1;injection h1 with h1 _;exact h1.symm
 have a:∀j,q≠⟨b,j,none⟩:=λj e=>c (by rw[e];exact f);refine .inr ⟨b,off,h1,by simpa using h2,λi d=>?_⟩;rw[Qa _ _ _ _ (a _),Qa _ _ _ _ (a _)];exact k i d
theorem cmp_neg:∀(a b:List UInt8),Lib.compareBytes a b<0↔Op.bytesLess a b=true
 | [],[]=>by simp[Lib.compareBytes,Op.bytesLess]
 | [],_::_=>by simp[Lib.compareBytes,Op.bytesLess]
 | _::_,[]=>by simp[Lib.compareBytes,Op.bytesLess]
 | x::a,y::b=>by
  have d:=cmp_neg a b;simp only[Lib.compareBytes,Op.bytesLess];by_cases h1:x<y
  ·simp[h1]
  by_cases h2:y<x
  ·have c:¬x=y:=λe=>by subst e;exact VI x h2
   simp[h1,h2,c]
  have c:=UInt8.le_antisymm (lF.1 h2) (lF.1 h1);subst c;simp[h1,d]
theorem zH:∀(a b:List UInt8),Lib.compareBytes a b=0↔a=b
 | [],[]=>by simp[Lib.compareBytes]
 | [],_::_=>by simp[Lib.compareBytes]
 | _::_,[]=>by simp[Lib.compareBytes]
 | x::a,y::b=>by
  have d:=zH a b;simp only[Lib.compareBytes];by_cases h1:x<y
  ·have c:¬x=y:=λe=>by subst e;exact VI x h1
   simp[h1,c]
  by_cases h2:y<x
  ·have c:¬x=y:=λe=>by subst e;exact VI x h2
   simp[h1,h2,c]
  have c:=UInt8.le_antisymm (lF.1 h2) (lF.1 h1);subst c;simp[h1,d]
def lt(a b:BY):Bool:=Op.bytesLess a.toList b.toList
def Js(a b:BY):Int:=Lib.compareBytes a.data.toList b.data.toList
theorem Ro(a b:BY):Js a b<0↔lt a b=true:=by
 unfold Js lt;rw[cmp_neg,ByteArray.toList_eq,ByteArray.toList_eq]
theorem Qu(a b:BY):Js a b=0↔a=b:=by
 unfold Js;rw[zH];exact⟨λh=>mg (Xk.1 h),λh=>by rw[h]⟩
theorem a3p(a b:BY)(w:World):
 Calls prog 252 #[.string a,.string b] w λe w'=>e=.returned (.int .i64 (Js a b))/\w'=w:=by
 have hrun:∀u:World,(callFunc 306 #[vS a,vS b]).run prog u=.ok (.value (vI (Js a b))) u:=λu=>by
  rw[run_callFunc_extern func306 Y0 Y0 Y0 (e:=Extern.BytealgCompare.compare) Y0,Lib.run_compareString];rfl
 go_in
 go_wp2;go_ret;exact⟨rfl,rfl⟩
theorem a1n(a b:BY)(w:World):
 Calls prog 185 #[.string a,.string b] w λe w'=>e=.returned (.int .i64 (Js a b))/\w'=w:=by
 go_in
 go_wp2_with fail
 refine(a3p a b _).mono ?_;rintro e w1⟨rfl,hw⟩;obtain rfl:=hw.symm;go_wp2;go_ret;exact⟨rfl,rfl⟩
theorem a1W(x:F2)(b:BY)(w:World):
 Calls prog 258 #[.agg #[.string x.nm,.string x.tx],.string b] w λe w'=>e=.returned (.int .i64 (Js x.nm b))/\Bw w w':=by
 go_in
 go_wp2_with fail
 refine(a1n x.nm b _).mono ?_;rintro e w1⟨rfl,hw⟩;obtain rfl:=hw.symm;go_wp2;go_ret;exact⟨rfl,P6⟩
theorem Vr:∀(a b c:List UInt8),Op.bytesLess a b=true->Op.bytesLess b c=true->Op.bytesLess a c=true
 | _,[],_,h,_=>by simp[Op.bytesLess]at h
 | _,_::_,[],_,h=>by simp[Op.bytesLess]at h
 | [],_::_,_::_,_,_=>by simp[Op.bytesLess]
 | x::a,y::b,z::c,h,k=>by
  have d:=Vr a b c;simp only[Op.bytesLess,rJ,X_,Zc,Zo]at h k ⊢;rcases h with h|⟨rfl,h⟩
  ·rcases k with k|⟨rfl,k⟩
   ·exact .inl (UInt8.lt_trans h k)
   exact .inl h
  rcases k with k|⟨rfl,k⟩
  ·exact .inl k
  exact .inr ⟨rfl,d h k⟩
theorem Jo:∀(a:List UInt8),Op.bytesLess a a=false
 | []=>by simp[Op.bytesLess]
 | x::a=>by simp[Op.bytesLess,Jo a]
theorem qg{a b c:BY}(h:lt a b=true)(k:lt b c=true):lt a c=true:=Vr _ _ _ h k
theorem Uc(a:BY):lt a a=false:=Jo _
structure Place(fs:List F2)(t:BY)(p:Nat)(f:Bool):Prop where
 le:p<=fs.length
 less:∀j,j<p->lt (fs.getD j P8).nm t=true
 more:∀j,p<=j->j<fs.length->lt (fs.getD j P8).nm t=false
 here:f=true↔p<fs.length/\(fs.getD p P8).nm=t
def Asc(fs:List F2):Prop:=∀i j,i<j->j<fs.length->lt (fs.getD i P8).nm (fs.getD j P8).nm=true
def Half(fs:List F2)(t:BY)(i j:Nat):Prop:=(∀q,q<i->lt (fs.getD q P8).nm t=true)/\∀q,j<=q->q<fs.length->lt (fs.getD q P8).nm t=false
theorem TV{fs:List F2}(hm:Asc fs)(a:Half fs t i j)(hl:h<fs.length)(hx:lt (fs.getD h P8).nm t=true):Half fs t (h+1) j:=by
 refine⟨λq hq=>?_,a.2⟩;rcases P7 q h with h1|h1
 ·exact qg (hm q h h1 hl) hx
 obtain rfl:q=h:=O0;exact hx
theorem xO{fs:List F2}(hm:Asc fs)(a:Half fs t i j)(hx:lt (fs.getD h P8).nm t=false):Half fs t i h:=by
 refine⟨a.1,λq hq hl=>?_⟩;rcases P7 h q with h1|h1
 ·cases hc:lt (fs.getD q P8).nm t
  ·rfl
  rw[qg (hm h q h1 hl) hc]at hx;cases hx
 obtain rfl:q=h:=O0;exact hx
theorem a3R(a:OA)(F:Nat)(fs:List F2)(t:BY)(w:World)(hl:fs.length<=40)(E:U5 w a fs)(hm:Asc fs):
 Calls prog 257 #[.slice a fs.length F,.string t,.func (.func 258) #[] #[]] w λe w'=>(∃p f,e=.returned (.tuple #[.int .i64 (p:Nat),.bool f])/\Place fs t p f)/\Bw w w':=by
 obtain⟨b,off,hc⟩:=o_ E;have B:=U0 hc;have A:=U0 hm
 go_in
 go_wp2;go_loopw[9,10] (λr o wr=>∃i j:Nat,i<=j/\j<=fs.length/\r=.int .i64 i/\o=.int .i64 j/\Below w.heap.size w wr/\Hid (Half fs t i j)) (λr o _=>(RowKit.intOf o).toNat-(RowKit.intOf r).toNat);exact⟨0,fs.length,I4 _,J9 _,rfl,rfl,J4 _ _,⟨λq h=>absurd h (U7 _),λq h k=>O0⟩⟩;obtain⟨i,j,hij,z,rfl,rfl,c,d⟩:=hrel;by_cases hlt:i<j;rotate_left
 ·obtain rfl:i=j:=O0;by_cases m:i<fs.length;rotate_left
  ·have y:Hid (Place fs t i false):=⟨O0,d.out.1,d.out.2,X7⟩;have hd:decide ((i:Int)<(fs.length:Int))=false:=y9 O0;go_wp2
   all_goals go_ret2
   all_goals exact⟨⟨i,false,rfl,y.out⟩,c⟩
  obtain⟨ha,l,g⟩:=Zb B.out m;subst ha;have g0:=(c.cell (by exact l)).trans (g i m).1;have g1:=(c.cell (by exact l)).trans (g i m).2;have y:Hid (∀f:Bool,(f=true↔(fs.getD i P8).nm=t)->Place fs t i f):=λf hf=>⟨O0,d.out.1,d.out.2,hf.trans ⟨λh=>⟨m,h⟩,λh=>h.2⟩⟩;generalize fs.getD i P8=x at*
  go_wp2_with fail
  refine(a1W x t wr).mono ?_;rintro e C⟨rfl,v⟩;have n:=P5 c v;go_wp2
  all_goals go_ret2
  all_goals exact⟨⟨i,_,rfl,y.out _ (by rw[<- Qu];simp)⟩,n⟩
 rcases B.out with D|⟨ha,l,g⟩
 ·rw[D]at z;simp at z;omega
 subst ha;have u:(i+j) / 2<fs.length:=O0;have g0:=(c.cell (by exact l)).trans (g _ u).1;have g1:=(c.cell (by exact l)).trans (g _ u).2;have H:Hid (lt (fs.getD ((i+j) / 2) P8).nm t=true->Half fs t ((i+j) / 2+1) j):=λhx=>TV A d u hx;have I:Hid (lt (fs.getD ((i+j) / 2) P8).nm t=false->Half fs t i ((i+j) / 2)):=λhx=>xO A d hx;generalize fs.getD ((i+j) / 2) P8=x at*
 go_wp2_with fail
 refine(a1W x t wr).mono ?_;rintro e C⟨rfl,v⟩;have n:=P5 c v;cases hx:lt x.nm t
 ·have hc:¬Js x.nm t<0:=λh=>by rw[(Ro _ _).1 h]at hx;cases hx
  have hc1:=y9 hc;have s:=U0 (I.out hx);go_wp2;go_roundw;exact⟨i,(i+j) / 2,O0,O0,rfl,by go_num,n,s⟩;exact P9
 have hc:=(Ro _ _).2 hx;have s:=U0 (H.out hx);go_wp2;go_roundw;exact⟨(i+j) / 2+1,j,O0,O0,by go_num,rfl,n,s⟩;exact P9
theorem KU(a:OA)(b:Nat)(fs:List F2)(t:BY)(w:World)(hl:fs.length<=40)(h:U5 w a fs)(hm:Asc fs):
 Calls prog 191 #[.agg #[.slice a fs.length b],.string t] w λe w'=>(∃p f,e=.returned (.tuple #[.int .i64 (p:Nat),.bool f])/\Place fs t p f)/\Bw w w':=by
 have k:=U0 h;have j:=U0 hm;have c:Bw w (w.alloc (.cells #[vL a fs.length b] 46)):=P6
 go_in
 go_wp2_with fail
 refine(a3R a b fs t _ hl (X4 k c) j).mono ?_;rintro e w1⟨⟨p,f,rfl,d⟩,g⟩;have i:=U0 d;go_wp2;go_ret2;exact⟨⟨p,f,rfl,i⟩,P5 c g⟩
theorem Vh{fs:List F2}(h:A_ fs):Asc fs:=by
 have b:∀j,j+1<fs.length->lt (fs.getD j P8).nm (fs.getD (j+1) P8).nm=true:=λj a=>by
  have:=h.2 (j+1) a;unfold Af at this;simp only[X_,rJ,Zc]at this;rcases this.2 with h|h
  ·omega
  exact h
 intro i j hij
 induction j with
 | zero=>omega
 | succ j ih=>
  intro a;rcases P7 i j with h1|h1
  ·exact qg (ih h1 O0) (b j a)
  obtain rfl:i=j:=O0;exact b i a
theorem zZ(a:OA)(m:Nat)(fs:List F2)(nm:BY)(w:World)(hl:fs.length<=1048576)(l:U5 w a fs):
 Calls prog 211 #[.agg #[.slice a fs.length m],.string nm] w λe w'=>(∃r:Int,e=.returned (.int .i64 r)/\((r=-1/\∀i,i<fs.length->(fs.getD i P8).nm≠nm)\/∃i:Nat,r=i/\i<fs.length/\(fs.getD i P8).nm=nm))/\Bw w w':=by
 obtain⟨b,off,hc⟩:=o_ l;have t:=U0 hc;have d:Bw w (w.alloc (.cells #[vL a fs.length m] 46)):=P6;clear hc l
 go_in
 go_wp2;go_loop[5] (λi=>∃k:Nat,k<=fs.length/\i=.int .i64 k/\Hid (∀j,j<k->(fs.getD j P8).nm≠nm)) (λi=>fs.length-(RowKit.intOf i).toNat);exact⟨0,I4 _,rfl,λj h=>absurd h (U7 _)⟩;obtain⟨k,hk,rfl,f⟩:=hrel;by_cases c:k<fs.length;rotate_left
 ·go_wp2;go_ret;exact⟨⟨-1,rfl,.inl ⟨rfl,λi hi=>f.out i O0⟩⟩,d⟩
 obtain⟨ha,q,g⟩:=Zb t.out c;subst ha;have g0:=(d.cell (by exact q)).trans (g k c).1;have o:Hid (∃x,x=fs.getD k P8):=⟨_,rfl⟩;obtain⟨x,hx⟩:=o.out;rw[<- hx]at g0;have n:=U0 hx;clear g hx o;cases hq:(x.nm.toList==nm.toList)
 ·have p:Hid (∀j,j<k+1->(fs.getD j P8).nm≠nm):=λj hj=>by
   rcases P7 j k with h|h
   ·exact f.out j h
   obtain rfl:j=k:=O0;rw[<- n.out];intro e;rw[e]at hq;simp at hq
  go_wp2
  go_round
  exact⟨k+1,O0,by go_num,p⟩;exact P9
 have he:x.nm=nm:=by
  have:=Zo.1 hq;rw[ByteArray.toList_eq,ByteArray.toList_eq]at this;exact mg (Xk.1 this)
 have s:Hid (∃i:Nat,(k:Int)=i/\i<fs.length/\(fs.getD i P8).nm=nm):=⟨k,rfl,c,by rw[<- n.out];exact he⟩;clear he;go_wp2;go_ret;exact⟨⟨_,rfl,.inr s.out⟩,d⟩
