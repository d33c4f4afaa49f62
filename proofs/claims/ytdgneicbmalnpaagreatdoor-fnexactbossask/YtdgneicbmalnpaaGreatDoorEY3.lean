import Derived.Test.YtdgneicbmalnpaaGreatDoorEZA
set_option linter.all false
set_option maxRecDepth 99999
set_option maxHeartbeats 0
namespace Go.Proofs.YtdgneicbmalnpaaGreatDoor
open Proofs.Tryz Go.RowKit
def Ri(x:L4):Prop:=Y5 x.nm.data.toList=true/\((x.has=true/\((x.cd=0/\x.tx=⟨#[]⟩)\/(x.cd=4/\x.tx=x.nm)))\/(x.has=false/\vr x.cd x.tx.data.toList=true))
def Yn(P:Prop)(e:Ending):Prop:=∃r,e=.returned (.bool r)/\(r=true↔P)
theorem T_{P:Prop}(h:¬P):Yn P (.returned (.bool false)):=⟨false,rfl,⟨λh=>absurd h Am,λk=>absurd k h⟩⟩
theorem Yk{P:Prop}(h:P):Yn P (.returned (.bool true)):=⟨true,rfl,⟨λ_=>h,λ_=>rfl⟩⟩
theorem Nq(x y:BY):x.toList=y.toList↔x=y:=⟨λh=>by
 rw[ByteArray.toList_eq,ByteArray.toList_eq]at h;exact jg (Yl.1 h),λh=>by rw[h]⟩
theorem a1p(x:BY):x.toList=[]↔x=⟨#[]⟩:=by
 rw[ByteArray.toList_eq];exact⟨λh=>jg (Yl.1 h),λh=>by rw[h]⟩
theorem pF{x:L4}(h:Y5 x.nm.data.toList=false):¬Ri x:=λk=>absurd (k.1.symm.trans h) U5
theorem NU{x:L4}(b:Y5 x.nm.data.toList=true)(a:x.has=false):Ri x↔vr x.cd x.tx.data.toList=true:=by
 constructor
 ·rintro⟨_,⟨h,_⟩|⟨_,h⟩⟩
  ·rw[a]at h;cases h
  exact h
 exact λh=>⟨b,.inr ⟨a,h⟩⟩
theorem iQ{x:L4}(b:Y5 x.nm.data.toList=true)(a:x.has=true):Ri x↔((x.cd=0/\x.tx.toList=[])\/(x.cd=4/\x.tx.toList=x.nm.toList)):=by
 rw[a1p,Nq];constructor
 ·rintro⟨_,⟨_,h⟩|⟨h,_⟩⟩
  ·exact h
  rw[a]at h;cases h
 exact λh=>⟨b,.inl ⟨a,h⟩⟩
theorem c157(x:L4)(w:World)(hs:x.le 1048600):
 Calls prog 157 #[.agg #[.bool x.has,.string x.nm,.int .i64 x.cd,.string x.tx]] w λe w'=>Yn (Ri x) e/\Bw w w':=by
 obtain⟨s1,s2⟩:=hs;have a:∀o,Bw w (w.alloc o):=λo=>U6;cases hn:Y5 x.nm.data.toList
 ·have f:=U0 (T_ (pF hn))
  go_in
  go_wp2_with fail
  refine(c21 x.nm _ O0).mono ?_;rintro e w1⟨rfl,hw⟩;obtain rfl:=hw.symm;rw[hn];go_wp2;go_ret;exact⟨f.o,a _⟩
 cases hh:x.has
 ·have b:=U0 (NU hn hh)
  go_in
  go_wp2_with fail
  refine(c21 x.nm _ O0).mono ?_;rintro e w1⟨rfl,hw⟩;obtain rfl:=hw.symm;rw[hn]
  go_wp2_with fail
  refine(IV x.cd x.tx _ O0).mono ?_;rintro e w2⟨rfl,c⟩;have d:=(a _).trans (c.mono J4);go_wp2;go_ret;exact⟨⟨_,rfl,b.o.symm⟩,d⟩
 have b:=U0 (iQ hn hh)
 skip
 all_goals
  go_in
  go_wp2_with fail
  refine(c21 x.nm _ O0).mono ?_;rintro e w1⟨rfl,hw⟩;obtain rfl:=hw.symm;rw[hn];go_wp2
  all_goals go_ret
  all_goals first
   | exact⟨Yk (b.o.2 (by simp[*])),a _⟩
   | exact⟨T_ (λh=>by have:=b.o.1 h;simp[*]at this),a _⟩
   | exact⟨Yk (b.o.2 (by simp[*])),(a _).alloc J4 _⟩
   | exact⟨T_ (λh=>by have:=b.o.1 h;simp[*]at this),(a _).alloc J4 _⟩
theorem a4D(x:L4)(w:World)(hs:x.le 1048600):
 Calls prog 278 #[.agg #[.bool x.has,.string x.nm,.int .i64 x.cd,.string x.tx]] w λe w'=>Yn (Ri x) e/\Bw w w':=by
 obtain⟨s1,s2⟩:=hs;have a:∀o,Bw w (w.alloc o):=λo=>U6;cases hh:x.has
 ·cases hn:Y5 x.nm.data.toList
  ·have c:=U0 (T_ (pF hn))
   go_in
   go_wp2_with fail
   refine(c80 x.nm _ O0).mono ?_;rintro e w1⟨rfl,hw⟩;obtain rfl:=hw.symm;rw[hn];go_wp2;go_ret;exact⟨c.o,a _⟩
  have b:=U0 (NU hn hh)
  go_in
  go_wp2_with fail
  refine(c80 x.nm _ O0).mono ?_;rintro e w1⟨rfl,hw⟩;obtain rfl:=hw.symm;rw[hn]
  go_wp2_with fail
  refine(c234 x.cd x.tx _ O0).mono ?_;rintro e w2⟨rfl,d⟩;have f:=(a _).trans (d.mono J4);go_wp2;go_ret;exact⟨⟨_,rfl,b.o.symm⟩,f⟩
 cases hn:Y5 x.nm.data.toList
 ·have c:=U0 (T_ (pF hn))
  go_in
  go_wp2_with fail
  refine(c80 x.nm _ O0).mono ?_;rintro e w1⟨rfl,hw⟩;obtain rfl:=hw.symm;rw[hn];go_wp2;go_ret;exact⟨c.o,(a _).alloc J4 _⟩
 have b:=U0 (iQ hn hh)
 skip
 all_goals
  go_in
  go_wp2_with fail
  refine(c80 x.nm _ O0).mono ?_;rintro e w1⟨rfl,hw⟩;obtain rfl:=hw.symm;rw[hn];go_wp2
  all_goals go_ret
  all_goals first
   | exact⟨Yk (b.o.2 (by simp[*])),(a _).alloc J4 _⟩
   | exact⟨T_ (λh=>by have:=b.o.1 h;simp[*]at this),(a _).alloc J4 _⟩
   | exact⟨Yk (b.o.2 (by simp[*])),((a _).alloc J4 _).alloc L8 _⟩
   | exact⟨T_ (λh=>by have:=b.o.1 h;simp[*]at this),((a _).alloc J4 _).alloc L8 _⟩
def Ig(ls:List L4):Prop:=ls.length<=15/\∀i,i<ls.length->Ri (ls.getD i K_)
theorem a2E(a:OA)(cap:Nat)(ls:List L4)(w:World)(hl:ls.length<=1048576)(hs:∀i,(ls.getD i K_).le 1048576)(y:O9 w a ls):
 Calls prog 112 #[.slice a ls.length cap] w λe w'=>Yn (Ig ls) e/\Bw w w':=by
 obtain⟨b,off,hc⟩:=uh y;have B:=U0 hc;have A:=U0 hs;by_cases hbig:15<ls.length
 ·have n:Hid (Yn (Ig ls) (.returned (.bool false))):=T_ (λh=>by have:=h.1;omega)
  go_in
  go_wp2;go_ret;exact⟨n,O4 _ _⟩
 go_in
 go_wp2;go_loopw[3] (λg wr=>∃k:Nat,k<=ls.length/\g=.int .i64 k/\Below w.heap.size w wr/\Hid (∀j,j<k->Ri (ls.getD j K_))) (λg _=>ls.length-(RowKit.intOf g).toNat);exact⟨0,Y4 _,rfl,O4 _ _,λj h=>absurd h (U8 _)⟩;obtain⟨k,hk,rfl,c,p⟩:=hrel;by_cases m:k<ls.length
 ·obtain⟨ha,f,u⟩:=Ud B.o m;subst ha;obtain⟨g0,g1,g2,g3⟩:=u k m;have g0:=(c.cell (by exact f)).trans g0;have g1:=(c.cell (by exact f)).trans g1;have g2:=(c.cell (by exact f)).trans g2;have g3:=(c.cell (by exact f)).trans g3;have o:=A.o k;have n:Hid (¬Ri (ls.getD k K_)->Yn (Ig ls) (.returned (.bool false))):=λh=>T_ λd=>h (d.2 k m);have z:Hid (Ri (ls.getD k K_)->∀j,j<k+1->Ri (ls.getD j K_)):=λh j t=>by
   rcases Z7 j k with h1|h1
   ·exact p j h1
   obtain rfl:j=k:=O0;exact h
  generalize ls.getD k K_=x at*
  go_wp2_with fail
  refine(c157 x wr ⟨by have:=o.1;omega,by have:=o.2;omega⟩).mono ?_;rintro e w1⟨⟨r,rfl,hr⟩,v⟩;have q:=E5 c v;cases r
  ·have s:=U0 (n.o λh=>absurd (hr.2 h) Am);go_wp2;go_ret;exact⟨s,q⟩
  have l:=U0 (z.o (hr.1 rfl));go_wp2;go_roundw;exact⟨k+1,O0,by go_num,q,l⟩;exact V9
 have l:Hid (Yn (Ig ls) (.returned (.bool true))):=Yk ⟨O0,λj t=>p.o j O0⟩;go_wp2;go_ret;exact⟨l,c⟩
theorem c233(a:OA)(cap:Nat)(ls:List L4)(w:World)(hl:ls.length<=1048576)(hs:∀i,(ls.getD i K_).le 1048576)(y:O9 w a ls):
 Calls prog 233 #[.slice a ls.length cap] w λe w'=>Yn (Ig ls) e/\Bw w w':=by
 obtain⟨b,off,hc⟩:=uh y;have C:=U0 hc;have B:=U0 hs;by_cases hbig:15<ls.length
 ·have n:Hid (Yn (Ig ls) (.returned (.bool false))):=T_ (λh=>by have:=h.1;omega)
  go_in
  go_wp2;go_ret;exact⟨n,O4 _ _⟩
 go_in
 go_wp2;go_loopw[10] (λg wr=>∃k:Nat,k<=ls.length/\g=.int .i64 k/\Below w.heap.size w wr/\Hid (∀j,j<k->Ri (ls.getD j K_))) (λg _=>ls.length-(RowKit.intOf g).toNat);exact⟨0,Y4 _,rfl,O4 _ _,λj h=>absurd h (U8 _)⟩;obtain⟨k,hk,rfl,c,p⟩:=hrel;by_cases m:k<ls.length
 ·obtain⟨ha,f,u⟩:=Ud C.o m;subst ha;obtain⟨g0,g1,g2,g3⟩:=u k m;have g0:=(c.cell (by exact f)).trans g0;have g1:=(c.cell (by exact f)).trans g1;have g2:=(c.cell (by exact f)).trans g2;have g3:=(c.cell (by exact f)).trans g3;have o:=B.o k;have n:Hid (¬Ri (ls.getD k K_)->Yn (Ig ls) (.returned (.bool false))):=λh=>T_ λd=>h (d.2 k m);have A:Hid (Ri (ls.getD k K_)->∀j,j<k+1->Ri (ls.getD j K_)):=λh j t=>by
   rcases Z7 j k with h1|h1
   ·exact p j h1
   obtain rfl:j=k:=O0;exact h
  generalize ls.getD k K_=x at*
  go_wp2_with fail
  have z:Bw w (wr.alloc (.cells #[.bool x.has,vS x.nm,vI x.cd,vS x.tx] 213)):=c.alloc c.size _;generalize (wr.alloc (.cells #[.bool x.has,vS x.nm,vI x.cd,vS x.tx] 213))=V at*;refine(a4D x V ⟨by have:=o.1;omega,by have:=o.2;omega⟩).mono ?_;rintro e w1⟨⟨r,rfl,hr⟩,v⟩;have q:=E5 z v;cases r
  ·have s:=U0 (n.o λh=>absurd (hr.2 h) Am);go_wp2;go_ret;exact⟨s,q⟩
  have l:=U0 (A.o (hr.1 rfl));go_wp2;go_roundw;exact⟨k+1,O0,by go_num,q,l⟩;exact V9
 have l:Hid (Yn (Ig ls) (.returned (.bool true))):=Yk ⟨O0,λj t=>p.o j O0⟩;go_wp2;go_ret;exact⟨l,c⟩
