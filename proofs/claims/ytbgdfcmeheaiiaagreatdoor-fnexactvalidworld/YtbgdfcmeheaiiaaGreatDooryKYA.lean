import Derived.Test.YtbgdfcmeheaiiaaGreatDooryKY4
set_option linter.unusedVariables false
set_option linter.unusedSimpArgs false
set_option maxHeartbeats 8000000
set_option maxRecDepth 100000
namespace Go.Proofs.YtbgdfcmeheaiiaaGreatDoor
open Proofs.Tryz Go.RowKit
def Ak(tw:Int)(fr:Int)(ep:Int)(ed:Int)(kn:BY)(kt:BY)(ka:BY)(ct:Int)(ov:Bool)(cd:Int)(tx:BY)(hs:Bool)(nm:BY)(st:Int)(to2:Int)(fr2:Int)(ep2:Int)(ed2:Int)(kn2:BY)(kt2:BY)(ka2:BY)(ct2:Int)(ov2:Bool)(cd2:Int)(tx2:BY)(hs2:Bool)(nm2:BY)(st2:Int)(la lb:Nat):Prop:=tw=to2/\fr=fr2/\ep=ep2/\ed=ed2/\kn=kn2/\kt=kt2/\ka=ka2/\la=lb/\ct=ct2/\ov=ov2/\cd=cd2/\tx=tx2/\hs=hs2/\nm=nm2/\st=st2
theorem c97(kd tw fr ep ed ct cd st:Int)(kn a c tx nm:BY)(d f:Bool)(O y x v u q m g:Int)(t s r l i:BY)(n j:Bool)(S R:OA)(la lb Q P:Nat)(w:World)(hla:la<=1048576)(hlb:lb<=1048576):
 Calls prog 97 #[.agg #[.int .i64 kd,.int .i64 tw,.int .i64 fr,.int .i64 ep,.int .i64 ed,.string kn,.string a,.string c,.slice S la Q,.int .i64 ct,.bool d,.int .i64 cd,.string tx,.bool f,.string nm,.int .i64 st],.agg #[.int .i64 O,.int .i64 y,.int .i64 x,.int .i64 v,.int .i64 u,.string t,.string s,.string r,.slice R lb P,.int .i64 q,.bool n,.int .i64 m,.string l,.bool j,.string i,.int .i64 g]] w λe w'=>Ia (Ak tw fr ep ed kn a c ct d cd tx f nm st y x v u t s r q n m l j i g la lb) e/\Bw w w':=by
 have k:∀o p,Bw w ((w.alloc o).alloc p):=λo p=>((J4 _ _).alloc (J9 _) _).alloc (by simp) _;rcases(f_ (tw=y)).symm with e0|e0
 ·have b:Hid (Ia (Ak tw fr ep ed kn a c ct d cd tx f nm st y x v u t s r q n m l j i g la lb) (.returned (.bool false))):=Z5 (λh=>e0 h.1)
  go_in
  go_wp2
  all_goals go_ret
  all_goals exact⟨b.out,k _ _⟩
 obtain rfl:=e0;rcases(f_ (fr=x)).symm with e1|e1
 ·have b:Hid (Ia (Ak tw fr ep ed kn a c ct d cd tx f nm st tw x v u t s r q n m l j i g la lb) (.returned (.bool false))):=Z5 (λh=>e1 h.2.1)
  go_in
  go_wp2
  all_goals go_ret
  all_goals exact⟨b.out,k _ _⟩
 obtain rfl:=e1;rcases(f_ (ep=v)).symm with J|J
 ·have b:Hid (Ia (Ak tw fr ep ed kn a c ct d cd tx f nm st tw fr v u t s r q n m l j i g la lb) (.returned (.bool false))):=Z5 (λh=>J h.2.2.1)
  go_in
  go_wp2
  all_goals go_ret
  all_goals exact⟨b.out,k _ _⟩
 obtain rfl:=J;rcases(f_ (ed=u)).symm with I|I
 ·have b:Hid (Ia (Ak tw fr ep ed kn a c ct d cd tx f nm st tw fr ep u t s r q n m l j i g la lb) (.returned (.bool false))):=Z5 (λh=>I h.2.2.2.1)
  go_in
  go_wp2
  all_goals go_ret
  all_goals exact⟨b.out,k _ _⟩
 obtain rfl:=I;rcases(f_ (kn.toList=t.toList)).symm with B|B
 ·have b:Hid (Ia (Ak tw fr ep ed kn a c ct d cd tx f nm st tw fr ep ed t s r q n m l j i g la lb) (.returned (.bool false))):=Z5 (λh=>B (by rw[h.2.2.2.2.1]))
  go_in
  go_wp2
  all_goals go_ret
  all_goals exact⟨b.out,k _ _⟩
 obtain rfl:=(Td _ _).1 B;clear B;rcases(f_ (a.toList=s.toList)).symm with A|A
 ·have b:Hid (Ia (Ak tw fr ep ed kn a c ct d cd tx f nm st tw fr ep ed kn s r q n m l j i g la lb) (.returned (.bool false))):=Z5 (λh=>A (by rw[h.2.2.2.2.2.1]))
  go_in
  go_wp2
  all_goals go_ret
  all_goals exact⟨b.out,k _ _⟩
 obtain rfl:=(Td _ _).1 A;clear A;rcases(f_ (c.toList=r.toList)).symm with z|z
 ·have b:Hid (Ia (Ak tw fr ep ed kn a c ct d cd tx f nm st tw fr ep ed kn a r q n m l j i g la lb) (.returned (.bool false))):=Z5 (λh=>z (by rw[h.2.2.2.2.2.2.1]))
  go_in
  go_wp2
  all_goals go_ret
  all_goals exact⟨b.out,k _ _⟩
 obtain rfl:=(Td _ _).1 z;clear z;rcases(f_ (la=lb)).symm with E|E
 ·have b:Hid (Ia (Ak tw fr ep ed kn a c ct d cd tx f nm st tw fr ep ed kn a c q n m l j i g la lb) (.returned (.bool false))):=Z5 (λh=>E h.2.2.2.2.2.2.2.1);have hlen2:¬(la:Int)=(lb:Int):=by omega
  go_in
  go_wp2;go_ret;exact⟨b.out,k _ _⟩
 obtain rfl:=E;rcases(f_ (ct=q)).symm with H|H
 ·have b:Hid (Ia (Ak tw fr ep ed kn a c ct d cd tx f nm st tw fr ep ed kn a c q n m l j i g la la) (.returned (.bool false))):=Z5 (λh=>H h.2.2.2.2.2.2.2.2.1)
  go_in
  go_wp2
  all_goals go_ret
  all_goals exact⟨b.out,k _ _⟩
 obtain rfl:=H;rcases(f_ (d=n)).symm with F|F
 ·have b:Hid (Ia (Ak tw fr ep ed kn a c ct d cd tx f nm st tw fr ep ed kn a c ct n m l j i g la la) (.returned (.bool false))):=Z5 (λh=>F h.2.2.2.2.2.2.2.2.2.1)
  go_in
  go_wp2
  all_goals go_ret
  all_goals exact⟨b.out,k _ _⟩
 obtain rfl:=F;rcases(f_ (cd=m)).symm with N|N
 ·have b:Hid (Ia (Ak tw fr ep ed kn a c ct d cd tx f nm st tw fr ep ed kn a c ct d m l j i g la la) (.returned (.bool false))):=Z5 (λh=>N h.2.2.2.2.2.2.2.2.2.2.1)
  go_in
  go_wp2
  all_goals go_ret
  all_goals exact⟨b.out,k _ _⟩
 obtain rfl:=N;rcases(f_ (tx.toList=l.toList)).symm with D|D
 ·have b:Hid (Ia (Ak tw fr ep ed kn a c ct d cd tx f nm st tw fr ep ed kn a c ct d cd l j i g la la) (.returned (.bool false))):=Z5 (λh=>D (by rw[h.2.2.2.2.2.2.2.2.2.2.2.1]))
  go_in
  go_wp2
  all_goals go_ret
  all_goals exact⟨b.out,k _ _⟩
 obtain rfl:=(Td _ _).1 D;clear D;rcases(f_ (f=j)).symm with L|L
 ·have b:Hid (Ia (Ak tw fr ep ed kn a c ct d cd tx f nm st tw fr ep ed kn a c ct d cd tx j i g la la) (.returned (.bool false))):=Z5 (λh=>L h.2.2.2.2.2.2.2.2.2.2.2.2.1)
  go_in
  go_wp2
  all_goals go_ret
  all_goals exact⟨b.out,k _ _⟩
 obtain rfl:=L;rcases(f_ (nm.toList=i.toList)).symm with C|C
 ·have b:Hid (Ia (Ak tw fr ep ed kn a c ct d cd tx f nm st tw fr ep ed kn a c ct d cd tx f i g la la) (.returned (.bool false))):=Z5 (λh=>C (by rw[h.2.2.2.2.2.2.2.2.2.2.2.2.2.1]))
  go_in
  go_wp2
  all_goals go_ret
  all_goals exact⟨b.out,k _ _⟩
 obtain rfl:=(Td _ _).1 C;clear C;rcases(f_ (st=g)).symm with K|K
 ·have b:Hid (Ia (Ak tw fr ep ed kn a c ct d cd tx f nm st tw fr ep ed kn a c ct d cd tx f nm g la la) (.returned (.bool false))):=Z5 (λh=>K h.2.2.2.2.2.2.2.2.2.2.2.2.2.2)
  go_in
  go_wp2
  all_goals go_ret
  all_goals exact⟨b.out,k _ _⟩
 obtain rfl:=K;have U:Hid (Ia (Ak tw fr ep ed kn a c ct d cd tx f nm st tw fr ep ed kn a c ct d cd tx f nm st la la) (.returned (.bool true))):=Jf (by simp[Ak])
 go_in
 go_wp2;go_ret;exact⟨U.out,k _ _⟩
def Bare(x:mr):Prop:=x.fr=0/\x.ct=0/\x.tn.over=false/\x.tn.cd=0/\x.tn.tx=⟨#[]⟩/\x.tn.has=false/\x.tn.nm=⟨#[]⟩/\x.tn.st=0
def Ze(x:mr):Prop:=Bare x/\(1<=x.tw/\x.tw<=4)/\Wq x.ep x.ed=true/\Xe x.km=true/\Ee x.ls
theorem jP(x:mr):Nj 1 x.tw x.fr x.ep x.ed x.km.nm x.km.tl x.km.ar x.ct x.tn.over x.tn.cd x.tn.tx x.tn.has x.tn.nm x.tn.st 1 x.tw 0 x.ep x.ed x.km.nm x.km.tl x.km.ar 0 false 0 ⟨#[]⟩ false ⟨#[]⟩ 0 true↔Bare x:=by
 unfold Nj Bare;constructor
 ·rintro⟨_,_,h1,_,_,_,_,_,_,h2,f,e,d,c,b,a⟩;exact⟨h1,h2,f,e,d,c,b,a⟩
 rintro⟨h1,h2,f,e,d,c,b,a⟩;exact⟨rfl,rfl,h1,rfl,rfl,rfl,rfl,rfl,rfl,h2,f,e,d,c,b,a⟩
theorem a3z(x:mr)(a:OA)(b:Nat)(w:World)(I:x.le 1048576)(C:X6 w a x.ls):
 Calls prog 220 #[.agg #[.int .i64 1,.int .i64 x.tw,.int .i64 x.fr,.int .i64 x.ep,.int .i64 x.ed,.string x.km.nm,.string x.km.tl,.string x.km.ar,.slice a x.ls.length b,.int .i64 x.ct,.bool x.tn.over,.int .i64 x.tn.cd,.string x.tn.tx,.bool x.tn.has,.string x.tn.nm,.int .i64 x.tn.st]] w λe w'=>Ia (Ze x) e/\Bw w w':=by
 obtain⟨m,⟨hl,y⟩,s4⟩:=I;have s:Hid (X6 w a x.ls):=C;have Q:Hid (∀i,(x.ls.getD i l_).le 1048576):=y;have q:∀o p,Bw w ((w.alloc o).alloc p):=λo p=>((J4 _ _).alloc (J9 _) _).alloc (by simp) _;clear C y
 go_in
 go_wp2_with fail
 refine(c62 1 x.tw x.fr x.ep x.ed x.ct x.tn.cd x.tn.st x.km.nm x.km.tl x.km.ar x.tn.tx x.tn.nm x.tn.over x.tn.has 1 x.tw 0 x.ep x.ed 0 0 0 x.km.nm x.km.tl x.km.ar ⟨#[]⟩ ⟨#[]⟩ false false a a x.ls.length x.ls.length b b true _ (λu B=>a0Z a a b b x.ls u hl (Z4 s.out ((q _ _).trans (B.mono (by simp<;>omega)))) (Z4 s.out ((q _ _).trans (B.mono (by simp<;>omega)))))).mono ?_;rintro e c⟨⟨r,rfl,hr⟩,A⟩;have D:Hid (r=true↔Bare x):=hr.trans (jP x);have k:Below (w.heap.size+2) ((w.alloc (.cells #[.int .i64 1,.int .i64 x.tw,.int .i64 x.fr,.int .i64 x.ep,.int .i64 x.ed,.string x.km.nm,.string x.km.tl,.string x.km.ar,.slice a x.ls.length b,.int .i64 x.ct,.bool x.tn.over,.int .i64 x.tn.cd,.string x.tn.tx,.bool x.tn.has,.string x.tn.nm,.int .i64 x.tn.st] 75)).alloc (.cells #[.int .i64 1,.int .i64 x.tw,.int .i64 0,.int .i64 x.ep,.int .i64 x.ed,.string x.km.nm,.string x.km.tl,.string x.km.ar,.slice a x.ls.length b,.int .i64 0,.bool false,.int .i64 0,.string ⟨#[]⟩,.bool false,.string ⟨#[]⟩,.int .i64 0] 75)) c:=Tq A;have g:Bw w c:=(q _ _).trans (k.mono (by omega));have H:w.heap.size<c.heap.size:=by have:=k.size;simp at this;omega
 have d:E5 c w.heap.size [.int .i64 1,.int .i64 x.tw,.int .i64 x.fr,.int .i64 x.ep,.int .i64 x.ed,.string x.km.nm,.string x.km.tl,.string x.km.ar,.slice a x.ls.length b,.int .i64 x.ct,.bool x.tn.over,.int .i64 x.tn.cd,.string x.tn.tx,.bool x.tn.has,.string x.tn.nm,.int .i64 x.tn.st]:=λj v h=>(k.cell (p:=⟨w.heap.size,j,none⟩) (by show w.heap.size<w.heap.size+2;omega)).trans (by simp[go_sem,h]);have a1:=d 1 _ rfl;have P:=d 3 _ rfl;have O:=d 4 _ rfl;have N:=d 5 _ rfl;have L:=d 6 _ rfl;have K:=d 7 _ rfl;clear hr A k;cases r
 ·have f:Hid (Ia (Ze x) (.returned (.bool false))):=Z5 (λh=>absurd (D.out.2 h.1) Jh);go_wp2;go_ret;exact⟨f.out,g⟩
 go_wp2_with fail
 refine(c60 x.tw c).mono ?_;rintro e F⟨rfl,hw⟩;obtain rfl:=hw.symm;cases h2:decide (1<=x.tw/\x.tw<=4)
 ·have f:Hid (Ia (Ze x) (.returned (.bool false))):=Z5 (λh=>yA h2 h.2.1);go_wp2;go_ret;exact⟨f.out,g⟩
 go_wp2_with fail
 refine(a4e x.ep x.ed c).mono ?_;rintro e F⟨rfl,hw⟩;obtain rfl:=hw.symm;cases h3:Wq x.ep x.ed
 ·have f:Hid (Ia (Ze x) (.returned (.bool false))):=Z5 (λh=>absurd (h3.symm.trans h.2.2.1) (by decide));go_wp2;go_ret;exact⟨f.out,g⟩
 go_wp2_with fail
 refine(KT x.km c ⟨by have:=m.1;omega,by have:=m.2.1;omega,by have:=m.2.2;omega⟩).mono ?_;rintro e t⟨rfl,n⟩;have l:Bw w t:=g.trans (n.mono g.size);have b8:=(d.below n H) 8 _ rfl;clear n a1 P O N L K;cases h4:Xe x.km
 ·have f:Hid (Ia (Ze x) (.returned (.bool false))):=Z5 (λh=>absurd (h4.symm.trans h.2.2.2.1) (by decide));go_wp2;go_ret;exact⟨f.out,l⟩
 go_wp2_with fail
 refine(JX a b x.ls t hl Q.out (Z4 s.out l)).mono ?_;rintro e E⟨⟨r,rfl,hr⟩,z⟩;have J:Bw w E:=l.trans (z.mono l.size);have R:Hid (r=true↔Ze x):=⟨λh=>⟨D.out.1 (by first|rfl|trivial),Wn h2,h3,h4,hr.1 h⟩,λh=>hr.2 h.2.2.2.2⟩;clear hr z;go_wp2;go_ret;exact⟨⟨r,rfl,R.out⟩,J⟩
theorem a4V(w:World):
 Calls prog 165 #[] w λe w'=>e=.returned (.agg #[.string ⟨#[]⟩,.nilFunc,.nilFunc,.nilFunc,.string ⟨#[111,102,102,101,114]⟩,.func (.func 220) #[] #[],.func (.func 221) #[] #[],.func (.func 222) #[] #[],.string ⟨#[116,117,114,110]⟩,.func (.func 223) #[] #[],.func (.func 224) #[] #[],.func (.func 225) #[] #[],.string ⟨#[104,101,114,101]⟩,.func (.func 226) #[] #[],.func (.func 227) #[] #[],.func (.func 228) #[] #[]])/\Bw w w':=by
 have hsn:∀(w:World)(a:Addr)(m:Mode),(store a .nilFunc m).run prog w=stored prog w a .nilFunc m:=λw a m=>xB _ _ _ _ _ rfl;have hsf:∀(w:World)(a:Addr)(f:Fn)(x y:Array Value)(m:Mode),(store a (.func f x y) m).run prog w=stored prog w a (.func f x y) m:=λw a f x y m=>xB _ _ _ _ _ rfl
 go_in
 go_wp2;refine o7 (v:=.agg #[.string ⟨#[]⟩,.nilFunc,.nilFunc,.nilFunc,.string ⟨#[111,102,102,101,114]⟩,.func (.func 220) #[] #[],.func (.func 221) #[] #[],.func (.func 222) #[] #[],.string ⟨#[116,117,114,110]⟩,.func (.func 223) #[] #[],.func (.func 224) #[] #[],.func (.func 225) #[] #[],.string ⟨#[104,101,114,101]⟩,.func (.func 226) #[] #[],.func (.func 227) #[] #[],.func (.func 228) #[] #[]]) (by simp[results,results165,go_sem]) rfl ⟨rfl,?_⟩;exact(J4 _ _).alloc (J9 _) _
theorem sZ(u:World):(Instr.index 270 (.agg #[.string ⟨#[]⟩,.nilFunc,.nilFunc,.nilFunc,.string ⟨#[111,102,102,101,114]⟩,.func (.func 220) #[] #[],.func (.func 221) #[] #[],.func (.func 222) #[] #[],.string ⟨#[116,117,114,110]⟩,.func (.func 223) #[] #[],.func (.func 224) #[] #[],.func (.func 225) #[] #[],.string ⟨#[104,101,114,101]⟩,.func (.func 226) #[] #[],.func (.func 227) #[] #[],.func (.func 228) #[] #[]]) (.int .i64 1)).run prog u=.ok (.agg #[.string ⟨#[111,102,102,101,114]⟩,.func (.func 220) #[] #[],.func (.func 221) #[] #[],.func (.func 222) #[] #[]]) u:=by kernel_rfl
theorem FZ(u:World):(Instr.field 269 (.agg #[.string ⟨#[111,102,102,101,114]⟩,.func (.func 220) #[] #[],.func (.func 221) #[] #[],.func (.func 222) #[] #[]]) 1).run prog u=.ok (.func (.func 220) #[] #[]) u:=by kernel_rfl
theorem a4H(x:mr)(g:OA)(h:Nat)(w:World)(q:x.le 1048576)(o:X6 w g x.ls):
 Calls prog 112 #[.agg #[.int .i64 1,.int .i64 x.tw,.int .i64 x.fr,.int .i64 x.ep,.int .i64 x.ed,.string x.km.nm,.string x.km.tl,.string x.km.ar,.slice g x.ls.length h,.int .i64 x.ct,.bool x.tn.over,.int .i64 x.tn.cd,.string x.tn.tx,.bool x.tn.has,.string x.tn.nm,.int .i64 x.tn.st]] w λe w'=>Ia (Ze x) e/\Bw w w':=by
 have HA:Hid (X6 w g x.ls):=o;clear o;have hIx:=sZ;have hFd:=FZ
 go_in
 go_wp2_with fail
 have i:Bw w (w.alloc (.cells #[.int .i64 1,.int .i64 x.tw,.int .i64 x.fr,.int .i64 x.ep,.int .i64 x.ed,.string x.km.nm,.string x.km.tl,.string x.km.ar,.slice g x.ls.length h,.int .i64 x.ct,.bool x.tn.over,.int .i64 x.tn.cd,.string x.tn.tx,.bool x.tn.has,.string x.tn.nm,.int .i64 x.tn.st] 75)):=(J4 _ _).alloc (J9 _) _;have c:w.heap.size<(w.alloc (.cells #[.int .i64 1,.int .i64 x.tw,.int .i64 x.fr,.int .i64 x.ep,.int .i64 x.ed,.string x.km.nm,.string x.km.tl,.string x.km.ar,.slice g x.ls.length h,.int .i64 x.ct,.bool x.tn.over,.int .i64 x.tn.cd,.string x.tn.tx,.bool x.tn.has,.string x.tn.nm,.int .i64 x.tn.st] 75)).heap.size:=by simp
 have b:=I9 w [.int .i64 1,.int .i64 x.tw,.int .i64 x.fr,.int .i64 x.ep,.int .i64 x.ed,.string x.km.nm,.string x.km.tl,.string x.km.ar,.slice g x.ls.length h,.int .i64 x.ct,.bool x.tn.over,.int .i64 x.tn.cd,.string x.tn.tx,.bool x.tn.has,.string x.tn.nm,.int .i64 x.tn.st] 75;have b:E5 (w.alloc (.cells #[.int .i64 1,.int .i64 x.tw,.int .i64 x.fr,.int .i64 x.ep,.int .i64 x.ed,.string x.km.nm,.string x.km.tl,.string x.km.ar,.slice g x.ls.length h,.int .i64 x.ct,.bool x.tn.over,.int .i64 x.tn.cd,.string x.tn.tx,.bool x.tn.has,.string x.tn.nm,.int .i64 x.tn.st] 75)) w.heap.size [.int .i64 1,.int .i64 x.tw,.int .i64 x.fr,.int .i64 x.ep,.int .i64 x.ed,.string x.km.nm,.string x.km.tl,.string x.km.ar,.slice g x.ls.length h,.int .i64 x.ct,.bool x.tn.over,.int .i64 x.tn.cd,.string x.tn.tx,.bool x.tn.has,.string x.tn.nm,.int .i64 x.tn.st]:=b;have a0:=b 0 _ rfl;have a1:=b 1 _ rfl;have a2:=b 2 _ rfl;have X:=b 3 _ rfl;have W:=b 4 _ rfl;have U:=b 5 _ rfl;have R:=b 6 _ rfl;have Q:=b 7 _ rfl;have P:=b 8 _ rfl;have O:=b 9 _ rfl;have a10:=b 10 _ rfl;have a11:=b 11 _ rfl;have a12:=b 12 _ rfl;have a13:=b 13 _ rfl;have Z:=b 14 _ rfl;have Y:=b 15 _ rfl;generalize (w.alloc (.cells #[.int .i64 1,.int .i64 x.tw,.int .i64 x.fr,.int .i64 x.ep,.int .i64 x.ed,.string x.km.nm,.string x.km.tl,.string x.km.ar,.slice g x.ls.length h,.int .i64 x.ct,.bool x.tn.over,.int .i64 x.tn.cd,.string x.tn.tx,.bool x.tn.has,.string x.tn.nm,.int .i64 x.tn.st] 75))=V at*;clear b;refine wp_region_held_drew (S:=(λu=>u.cell? ⟨w.heap.size,0,none⟩=some (.int .i64 1)/\u.cell? ⟨w.heap.size,1,none⟩=some (.int .i64 x.tw)/\u.cell? ⟨w.heap.size,2,none⟩=some (.int .i64 x.fr)/\u.cell? ⟨w.heap.size,3,none⟩=some (.int .i64 x.ep)/\u.cell? ⟨w.heap.size,4,none⟩=some (.int .i64 x.ed)/\u.cell? ⟨w.heap.size,5,none⟩=some (.string x.km.nm)/\u.cell? ⟨w.heap.size,6,none⟩=some (.string x.km.tl)/\u.cell? ⟨w.heap.size,7,none⟩=some (.string x.km.ar)/\u.cell? ⟨w.heap.size,8,none⟩=some (.slice g x.ls.length h)/\u.cell? ⟨w.heap.size,9,none⟩=some (.int .i64 x.ct)/\u.cell? ⟨w.heap.size,10,none⟩=some (.bool x.tn.over)/\u.cell? ⟨w.heap.size,11,none⟩=some (.int .i64 x.tn.cd)/\u.cell? ⟨w.heap.size,12,none⟩=some (.string x.tn.tx)/\u.cell? ⟨w.heap.size,13,none⟩=some (.bool x.tn.has)/\u.cell? ⟨w.heap.size,14,none⟩=some (.string x.tn.nm)/\u.cell? ⟨w.heap.size,15,none⟩=some (.int .i64 x.tn.st))) (by kernel_rfl) ?_ (λhHeld=>?_)
 · ((try dsimp only);go_keep)
 refine U8 0 ?_;refine U8 1 ?_;refine U8 2 ?_;refine U8 3 ?_;refine U8 4 ?_;refine U8 5 ?_;refine U8 6 ?_;refine U8 7 ?_;refine U8 8 ?_;refine U8 10 ?_;refine U8 11 ?_;refine U8 14 ?_;refine rq 9 (λK j=>?_);go_simp;refine(a4V _).mono ?_;rintro e k⟨rfl,n⟩;have a:Hid (Bw V k):=((J4 _ _).drew).trans n;have b0:=(a.out.cell (p:=⟨w.heap.size,0,none⟩) (by exact c)).trans a0;have N:=(a.out.cell (p:=⟨w.heap.size,1,none⟩) (by exact c)).trans a1;have D:=(a.out.cell (p:=⟨w.heap.size,2,none⟩) (by exact c)).trans a2;have C:=(a.out.cell (p:=⟨w.heap.size,3,none⟩) (by exact c)).trans X;have B:=(a.out.cell (p:=⟨w.heap.size,4,none⟩) (by exact c)).trans W;have A:=(a.out.cell (p:=⟨w.heap.size,5,none⟩) (by exact c)).trans U;have z:=(a.out.cell (p:=⟨w.heap.size,6,none⟩) (by exact c)).trans R;have y:=(a.out.cell (p:=⟨w.heap.size,7,none⟩) (by exact c)).trans Q;have v:=(a.out.cell (p:=⟨w.heap.size,8,none⟩) (by exact c)).trans P;have t:=(a.out.cell (p:=⟨w.heap.size,9,none⟩) (by exact c)).trans O;have L:=(a.out.cell (p:=⟨w.heap.size,10,none⟩) (by exact c)).trans a10;have J:=(a.out.cell (p:=⟨w.heap.size,11,none⟩) (by exact c)).trans a11;have I:=(a.out.cell (p:=⟨w.heap.size,12,none⟩) (by exact c)).trans a12;have H:=(a.out.cell (p:=⟨w.heap.size,13,none⟩) (by exact c)).trans a13;have F:=(a.out.cell (p:=⟨w.heap.size,14,none⟩) (by exact c)).trans Z;have E:=(a.out.cell (p:=⟨w.heap.size,15,none⟩) (by exact c)).trans Y;clear n
 go_wp2_with fail
 clear hHeld;refine rF j λhHeld=>?_;clear j K;refine U8 12 ?_;refine U8 13 ?_;refine rq 15 (λK j=>?_);go_simp;refine(a3z x g h k q (Z4 HA.out (i.trans (a.out.mono i.size)))).mono ?_;rintro e l⟨⟨r,rfl,hr⟩,m⟩;have HR:Hid (r=true↔Ze x):=hr;have d:Hid (Bw k l):=m;have f:w.heap.size<k.heap.size:=G9 c a.out.size;have d0:=(d.out.cell (p:=⟨w.heap.size,0,none⟩) (by exact f)).trans b0;have d1:=(d.out.cell (p:=⟨w.heap.size,1,none⟩) (by exact f)).trans N;have d2:=(d.out.cell (p:=⟨w.heap.size,2,none⟩) (by exact f)).trans D;have d3:=(d.out.cell (p:=⟨w.heap.size,3,none⟩) (by exact f)).trans C;have d4:=(d.out.cell (p:=⟨w.heap.size,4,none⟩) (by exact f)).trans B;have d5:=(d.out.cell (p:=⟨w.heap.size,5,none⟩) (by exact f)).trans A;have d6:=(d.out.cell (p:=⟨w.heap.size,6,none⟩) (by exact f)).trans z;have d7:=(d.out.cell (p:=⟨w.heap.size,7,none⟩) (by exact f)).trans y;have d8:=(d.out.cell (p:=⟨w.heap.size,8,none⟩) (by exact f)).trans v;have d9:=(d.out.cell (p:=⟨w.heap.size,9,none⟩) (by exact f)).trans t;have d10:=(d.out.cell (p:=⟨w.heap.size,10,none⟩) (by exact f)).trans L;have d11:=(d.out.cell (p:=⟨w.heap.size,11,none⟩) (by exact f)).trans J;have d12:=(d.out.cell (p:=⟨w.heap.size,12,none⟩) (by exact f)).trans I;have d13:=(d.out.cell (p:=⟨w.heap.size,13,none⟩) (by exact f)).trans H;have d14:=(d.out.cell (p:=⟨w.heap.size,14,none⟩) (by exact f)).trans F;have d15:=(d.out.cell (p:=⟨w.heap.size,15,none⟩) (by exact f)).trans E;clear hr m
 go_wp2_with fail
 clear hHeld;refine rF j λhHeld=>?_;clear j K;refine U8 16 ?_;refine U8 17 ?_;refine wpAnyH_done (by kernel_rfl) ?_ _;have s:Bw w l:=(i.trans (a.out.mono i.size)).trans (d.out.mono (i.trans (a.out.mono i.size)).size);clear hHeld;go_wp2;go_ret;exact⟨⟨r,rfl,HR.out⟩,s⟩
def Om(n:Int)(x:mr):Prop:=x.kd=1/\x.tw=n/\Ze x
theorem c61(n:Int)(x:mr)(f:OA)(k:Nat)(w:World)(a:x.le 1048576)(b:X6 w f x.ls):
 Calls prog 61 #[.int .i64 n,.agg #[.int .i64 x.kd,.int .i64 x.tw,.int .i64 x.fr,.int .i64 x.ep,.int .i64 x.ed,.string x.km.nm,.string x.km.tl,.string x.km.ar,.slice f x.ls.length k,.int .i64 x.ct,.bool x.tn.over,.int .i64 x.tn.cd,.string x.tn.tx,.bool x.tn.has,.string x.tn.nm,.int .i64 x.tn.st]] w λe w'=>Ia (Om n x) e/\Bw w w':=by
 have c:∀o,Bw w (w.alloc o):=λo=>(J4 _ _).alloc (J9 _) _;obtain⟨kd,tw,fr,ep,ed,km,ls,ct,tn⟩:=x;rcases(f_ (kd=1)).symm with e1|e1
 ·have g:Hid (Ia (Om n ⟨kd,tw,fr,ep,ed,km,ls,ct,tn⟩) (.returned (.bool false))):=Z5 (λh=>e1 h.1);clear b a
  go_in
  go_wp2
  all_goals go_ret
  all_goals exact⟨g.out,c _⟩
 obtain rfl:=e1;rcases(f_ (tw=n)).symm with d|d
 ·have g:Hid (Ia (Om n ⟨1,tw,fr,ep,ed,km,ls,ct,tn⟩) (.returned (.bool false))):=Z5 (λh=>d h.2.1);clear b a
  go_in
  go_wp2
  all_goals go_ret
  all_goals exact⟨g.out,c _⟩
 obtain rfl:=d;have j:=λu (m:Bw w u)=>a4H ⟨1,tw,fr,ep,ed,km,ls,ct,tn⟩ f k u a (Z4 b m);clear b a
 go_in
 go_wp2_with fail
 refine(j _ (c _)).mono ?_;rintro e l⟨⟨r,rfl,hr⟩,i⟩;have p:Bw w l:=(c _).trans (i.mono (by simp));have q:Hid (r=true↔Om tw ⟨1,tw,fr,ep,ed,km,ls,ct,tn⟩):=⟨λh=>⟨rfl,rfl,hr.1 h⟩,λh=>hr.2 h.2.2⟩;clear hr j i;go_wp2;go_ret;exact⟨⟨r,rfl,q.out⟩,p⟩
def Qj(x:mr):Prop:=x.kd=0/\x.tw=0/\x.fr=0/\x.ep=0/\x.ed=0/\x.km.nm=⟨#[]⟩/\x.km.tl=⟨#[]⟩/\x.km.ar=⟨#[]⟩/\x.ls.length=0/\x.ct=0/\x.tn.over=false/\x.tn.cd=0/\x.tn.tx=⟨#[]⟩/\x.tn.has=false/\x.tn.nm=⟨#[]⟩/\x.tn.st=0
def En(x:Yz):Prop:=(1<=x.no/\x.no<=4)/\((x.has=true/\x.up=true/\Om x.no x.of)\/(x.has=false/\Qj x.of))
theorem mW(x:mr):Nj x.kd x.tw x.fr x.ep x.ed x.km.nm x.km.tl x.km.ar x.ct x.tn.over x.tn.cd x.tn.tx x.tn.has x.tn.nm x.tn.st 0 0 0 0 0 ⟨#[]⟩ ⟨#[]⟩ ⟨#[]⟩ 0 false 0 ⟨#[]⟩ false ⟨#[]⟩ 0 (decide (x.ls.length=0))↔Qj x:=by
 unfold Nj Qj;rw[Zc]
theorem c21(x:Yz)(a:OA)(d:Nat)(w:World)(i:x.of.le 1048576)(n:X6 w a x.of.ls):
 Calls prog 21 #[.agg #[.int .i64 x.no,.bool x.up,.bool x.has,.int .i64 x.of.kd,.int .i64 x.of.tw,.int .i64 x.of.fr,.int .i64 x.of.ep,.int .i64 x.of.ed,.string x.of.km.nm,.string x.of.km.tl,.string x.of.km.ar,.slice a x.of.ls.length d,.int .i64 x.of.ct,.bool x.of.tn.over,.int .i64 x.of.tn.cd,.string x.of.tn.tx,.bool x.of.tn.has,.string x.of.tn.nm,.int .i64 x.of.tn.st]] w λe w'=>Ia (En x) e/\Bw w w':=by
 have c:∀o,Bw w (w.alloc o):=λo=>(J4 _ _).alloc (J9 _) _;have q:Hid (X6 w a x.of.ls):=n;have hl:x.of.ls.length<=1048576:=i.2.1.1;have p:Hid (x.of.le 1048576):=i;clear n i;obtain⟨no,up,has,x⟩:=x;cases h1:decide (1<=no/\no<=4)
 ·have l:Hid (Ia (En ⟨no,up,has,x⟩) (.returned (.bool false))):=Z5 (λh=>yA h1 h.1)
  go_in
  go_wp2_with fail
  refine(c60 no _).mono ?_;rintro e g⟨rfl,hw⟩;obtain rfl:=hw.symm;rw[h1];go_wp2;go_ret;exact⟨l.out,c _⟩
 cases has
 ·have m:Hid (En ⟨no,up,false,x⟩↔Qj x):=by
   constructor
   ·rintro⟨_,⟨h,_⟩|⟨_,h⟩⟩
    ·cases h
    exact h
   exact λh=>⟨Wn h1,.inr ⟨rfl,h⟩⟩
  go_in
  go_wp2_with fail
  refine(c60 no _).mono ?_;rintro e g⟨rfl,hw⟩;obtain rfl:=hw.symm;rw[h1]
  go_wp2_with fail
  refine(c62 x.kd x.tw x.fr x.ep x.ed x.ct x.tn.cd x.tn.st x.km.nm x.km.tl x.km.ar x.tn.tx x.tn.nm x.tn.over x.tn.has 0 0 0 0 0 0 0 0 ⟨#[]⟩ ⟨#[]⟩ ⟨#[]⟩ ⟨#[]⟩ ⟨#[]⟩ false false a none x.ls.length 0 d 0 (decide (x.ls.length=0)) _ (λu hb=>a2d a none d 0 x.ls u hl)).mono ?_;rintro e f⟨⟨r,rfl,hr⟩,b⟩;have j:Bw w f:=(c _).trans (b.mono (by simp));have k:Hid (r=true↔En ⟨no,up,false,x⟩):=(hr.trans (mW x)).trans m.out.symm;clear hr b;go_wp2;go_ret;exact⟨⟨r,rfl,k.out⟩,j⟩
 cases up
 ·have l:Hid (Ia (En ⟨no,false,true,x⟩) (.returned (.bool false))):=Z5 (λh=>by
   rcases h.2 with⟨_,h,_⟩|⟨h,_⟩
   ·cases h
   cases h)
  go_in
  go_wp2_with fail
  refine(c60 no _).mono ?_;rintro e g⟨rfl,hw⟩;obtain rfl:=hw.symm;rw[h1];go_wp2;go_ret;exact⟨l.out,c _⟩
 have m:Hid (En ⟨no,true,true,x⟩↔Om no x):=by
  constructor
  ·rintro⟨_,⟨_,_,h⟩|⟨h,_⟩⟩
   ·exact h
   cases h
  exact λh=>⟨Wn h1,.inl ⟨rfl,rfl,h⟩⟩
 go_in
 go_wp2_with fail
 refine(c60 no _).mono ?_;rintro e g⟨rfl,hw⟩;obtain rfl:=hw.symm;rw[h1]
 go_wp2_with fail
 refine(c61 no x a d _ p.out (Z4 q.out (c _))).mono ?_;rintro e f⟨⟨r,rfl,hr⟩,b⟩;have j:Bw w f:=(c _).trans (b.mono (by simp));have k:Hid (r=true↔En ⟨no,true,true,x⟩):=hr.trans m.out.symm;clear hr b;go_wp2;go_ret;exact⟨⟨r,rfl,k.out⟩,j⟩
def jg(x:mr):List UInt8:=[32]++dec x.ep++[32]++dec x.ed++[32]++x.km.nm.data.toList
theorem bU(x:mr):(⟨#[32]⟩:BY)++Y2 (dec x.ep)++⟨#[32]⟩++Y2 (dec x.ed)++⟨#[32]⟩++x.km.nm=Y2 (jg x):=by
 show Y2 [32]++Y2 (dec x.ep)++Y2 [32]++Y2 (dec x.ed)++Y2 [32]++Y2 x.km.nm.data.toList=_;rw[U9,U9,U9,U9,U9];rfl
theorem a4F(x:mr)(b:OA)(a:Nat)(w:World)(h1:0<=x.ep)(h2:x.ep<=1000)(o:0<=x.ed)(h4:x.ed<=1000)(hn:x.km.nm.size<=1048600):
 Calls prog 100 #[.agg #[.int .i64 x.kd,.int .i64 x.tw,.int .i64 x.fr,.int .i64 x.ep,.int .i64 x.ed,.string x.km.nm,.string x.km.tl,.string x.km.ar,.slice b x.ls.length a,.int .i64 x.ct,.bool x.tn.over,.int .i64 x.tn.cd,.string x.tn.tx,.bool x.tn.has,.string x.tn.nm,.int .i64 x.tn.st]] w λe w'=>e=.returned (.string (Y2 (jg x)))/\Bw w w':=by
 have z1:=Wi x.ep h1 (by omega);have z2:=Wi x.ed o (by omega);have A:Hid ((⟨#[32]⟩:BY)++Y2 (dec x.ep)++⟨#[32]⟩++Y2 (dec x.ed)++⟨#[32]⟩++x.km.nm=Y2 (jg x)):=bU x;have k1:¬9223372036854775807<1+(Y2 (dec x.ep)).size:=by omega
 have k2:¬9223372036854775807<1+(Y2 (dec x.ep)).size+1:=by omega
 have k2':¬9223372036854775807<=1+(Y2 (dec x.ep)).size:=by omega
 have k3:¬9223372036854775807<1+(Y2 (dec x.ep)).size+1+(Y2 (dec x.ed)).size:=by omega
 have k4:¬9223372036854775807<1+(Y2 (dec x.ep)).size+1+(Y2 (dec x.ed)).size+1:=by omega
 have k4':¬9223372036854775807<=1+(Y2 (dec x.ep)).size+1+(Y2 (dec x.ed)).size:=by omega
 have k5:¬9223372036854775807<1+(Y2 (dec x.ep)).size+1+(Y2 (dec x.ed)).size+1+x.km.nm.size:=by omega
 go_in
 go_wp2_with fail
 have g:Bw w (w.alloc (.cells #[.int .i64 x.kd,.int .i64 x.tw,.int .i64 x.fr,.int .i64 x.ep,.int .i64 x.ed,.string x.km.nm,.string x.km.tl,.string x.km.ar,.slice b x.ls.length a,.int .i64 x.ct,.bool x.tn.over,.int .i64 x.tn.cd,.string x.tn.tx,.bool x.tn.has,.string x.tn.nm,.int .i64 x.tn.st] 75)):=(J4 _ _).alloc (J9 _) _;have f:w.heap.size<(w.alloc (.cells #[.int .i64 x.kd,.int .i64 x.tw,.int .i64 x.fr,.int .i64 x.ep,.int .i64 x.ed,.string x.km.nm,.string x.km.tl,.string x.km.ar,.slice b x.ls.length a,.int .i64 x.ct,.bool x.tn.over,.int .i64 x.tn.cd,.string x.tn.tx,.bool x.tn.has,.string x.tn.nm,.int .i64 x.tn.st] 75)).heap.size:=by simp
 have h:E5 (w.alloc (.cells #[.int .i64 x.kd,.int .i64 x.tw,.int .i64 x.fr,.int .i64 x.ep,.int .i64 x.ed,.string x.km.nm,.string x.km.tl,.string x.km.ar,.slice b x.ls.length a,.int .i64 x.ct,.bool x.tn.over,.int .i64 x.tn.cd,.string x.tn.tx,.bool x.tn.has,.string x.tn.nm,.int .i64 x.tn.st] 75)) w.heap.size [.int .i64 x.kd,.int .i64 x.tw,.int .i64 x.fr,.int .i64 x.ep,.int .i64 x.ed,.string x.km.nm,.string x.km.tl,.string x.km.ar,.slice b x.ls.length a,.int .i64 x.ct,.bool x.tn.over,.int .i64 x.tn.cd,.string x.tn.tx,.bool x.tn.has,.string x.tn.nm,.int .i64 x.tn.st]:=I9 w [.int .i64 x.kd,.int .i64 x.tw,.int .i64 x.fr,.int .i64 x.ep,.int .i64 x.ed,.string x.km.nm,.string x.km.tl,.string x.km.ar,.slice b x.ls.length a,.int .i64 x.ct,.bool x.tn.over,.int .i64 x.tn.cd,.string x.tn.tx,.bool x.tn.has,.string x.tn.nm,.int .i64 x.tn.st] 75;have z:=h 3 _ rfl;have y:=h 4 _ rfl;have v:=h 5 _ rfl;generalize (w.alloc (.cells #[.int .i64 x.kd,.int .i64 x.tw,.int .i64 x.fr,.int .i64 x.ep,.int .i64 x.ed,.string x.km.nm,.string x.km.tl,.string x.km.ar,.slice b x.ls.length a,.int .i64 x.ct,.bool x.tn.over,.int .i64 x.tn.cd,.string x.tn.tx,.bool x.tn.has,.string x.tn.nm,.int .i64 x.tn.st] 75))=V at*;clear h;refine wp_region_held_drew (S:=(λu=>u.cell? ⟨w.heap.size,3,none⟩=some (.int .i64 x.ep)/\u.cell? ⟨w.heap.size,4,none⟩=some (.int .i64 x.ed)/\u.cell? ⟨w.heap.size,5,none⟩=some (.string x.km.nm))) (by kernel_rfl) ?_ (λhHeld=>?_)
 · ((try dsimp only);go_keep)
 refine U8 0 ?_;refine U8 1 ?_;refine U8 5 ?_;refine U8 6 ?_;refine U8 10 ?_;refine U8 11 ?_;refine U8 12 ?_;refine rq 2 (λK d=>?_);go_simp;refine(c99 (x.ep.toNat+1) x.ep _ h1 (by omega) (su _)).mono ?_;rintro e j⟨rfl,n⟩;have c:Hid (Bw V j):=((J4 _ _).drew).trans n;have t:=(c.out.cell (p:=⟨w.heap.size,3,none⟩) (by exact f)).trans z;have s:=(c.out.cell (p:=⟨w.heap.size,4,none⟩) (by exact f)).trans y;have r:=(c.out.cell (p:=⟨w.heap.size,5,none⟩) (by exact f)).trans v;clear n
 go_wp2_with fail
 clear hHeld;refine rF d λhHeld=>?_;clear d K;refine U8 3 ?_;refine U8 4 ?_;refine rq 7 (λK d=>?_);go_simp;refine(c99 (x.ed.toNat+1) x.ed _ o (by omega) (su _)).mono ?_;rintro e l⟨rfl,m⟩;have i:Hid (Bw j l):=m;have k:w.heap.size<j.heap.size:=G9 f c.out.size;have d3:=(i.out.cell (p:=⟨w.heap.size,3,none⟩) (by exact k)).trans t;have d4:=(i.out.cell (p:=⟨w.heap.size,4,none⟩) (by exact k)).trans s;have d5:=(i.out.cell (p:=⟨w.heap.size,5,none⟩) (by exact k)).trans r;clear m
 go_wp2_with fail
 clear hHeld;refine rF d λhHeld=>?_;clear d K;refine U8 8 ?_;refine U8 9 ?_;refine U8 13 ?_;refine U8 14 ?_;refine wpAnyH_done (by kernel_rfl) ?_ _;have q:Bw w l:=(g.trans (c.out.mono g.size)).trans (i.out.mono (g.trans (c.out.mono g.size)).size);clear hHeld;go_wp2;go_ret;exact⟨by rw[<- A.out];rfl,q⟩
def Jr(x:mr):List UInt8:=[111,102,102,101,114,32]++dec x.tw++jg x++[32]++x.km.tl.data.toList++[32]++J5 x.km.ar.data.toList++[10]++Y9 x.ls
theorem UM(x:mr):(⟨#[111,102,102,101,114,32]⟩:BY)++Y2 (dec x.tw)++Y2 (jg x)++⟨#[32]⟩++x.km.tl++⟨#[32]⟩++Y2 (J5 x.km.ar.data.toList)++⟨#[10]⟩++Y2 (Y9 x.ls)=Y2 (Jr x):=by
 show Y2 [111,102,102,101,114,32]++Y2 (dec x.tw)++Y2 (jg x)++Y2 [32]++Y2 x.km.tl.data.toList++Y2 [32]++Y2 (J5 x.km.ar.data.toList)++Y2 [10]++Y2 (Y9 x.ls)=_;rw[U9,U9,U9,U9,U9,U9,U9,U9];rfl
def UB(x:mr)(e:Ending):Prop:=∃s,e=.returned (.string s)/\((Ze x/\s=Y2 (Jr x))\/(¬Ze x/\s=⟨#[]⟩))
theorem Uj{x:mr}(h:¬Ze x):UB x (.returned (.string ⟨#[]⟩)):=⟨_,rfl,.inr ⟨h,rfl⟩⟩
theorem jr(x:mr):Ak x.tw x.fr x.ep x.ed x.km.nm x.km.tl x.km.ar x.ct x.tn.over x.tn.cd x.tn.tx x.tn.has x.tn.nm x.tn.st x.tw 0 x.ep x.ed x.km.nm x.km.tl x.km.ar 0 false 0 ⟨#[]⟩ false ⟨#[]⟩ 0 x.ls.length x.ls.length↔Bare x:=by
 unfold Ak Bare;constructor
 ·rintro⟨_,h1,_,_,_,_,_,_,h2,f,e,d,c,b,a⟩;exact⟨h1,h2,f,e,d,c,b,a⟩
 rintro⟨h1,h2,f,e,d,c,b,a⟩;exact⟨rfl,h1,rfl,rfl,rfl,rfl,rfl,rfl,h2,f,e,d,c,b,a⟩
theorem TM(x:mr)(h1:0<=x.ep)(h2:x.ep<=1000)(c:0<=x.ed)(h4:x.ed<=1000):(Y2 (jg x)).size<=200000005+x.km.nm.size:=by
 have a:=Wi x.ep h1 (by omega);have b:=Wi x.ed c (by omega);have e:x.km.nm.data.toList.length=x.km.nm.size:=by simp
 rw[Y4]at a b ⊢;unfold jg;simp only[L9,x_,ve];omega
theorem rO(ls:List L4)(b:Ee ls)(a:∀i,(ls.getD i l_).le 1048576):∀k,k<=ls.length->(Y9 (ls.take k)).length<=k*110000000:=by
 intro k
 induction k with
 | zero=>intro _;simp[Y9]
 | succ k ih=>
  intro hk;rw[Sr ls k (by omega),L9];have hx:=a k;have c:=Bh (b.2 k (by omega));have zr:=yH (ls.getD k l_).cd (ls.getD k l_).tx c.1 (by omega);have:=U6 ByteArray.size (Yt (ls.getD k l_));rw[Y4]at this;simp only[NE]at this;have w4:=zC (ls.getD k l_).has;have e1:(⟨#[32]⟩:BY).size=1:=rfl;have e2:(⟨#[10]⟩:BY).size=1:=rfl;have:=ih (by omega);have s1:=hx.1;have s2:=hx.2;omega
theorem ZI(ls:List L4)(a:Ee ls)(b:∀i,(ls.getD i l_).le 1048576):(Y2 (Y9 ls)).size<=1650000000:=by
 have:=rO ls a b ls.length (J9 _);rw[p_ (J9 _)]at this;rw[Y4];have:=a.1;omega
theorem c49(x:mr)(b:OA)(d:Nat)(w:World)(hs:x.le 1048576)(hat:X6 w b x.ls):
 Calls prog 49 #[.agg #[.int .i64 1,.int .i64 x.tw,.int .i64 x.fr,.int .i64 x.ep,.int .i64 x.ed,.string x.km.nm,.string x.km.tl,.string x.km.ar,.slice b x.ls.length d,.int .i64 x.ct,.bool x.tn.over,.int .i64 x.tn.cd,.string x.tn.tx,.bool x.tn.has,.string x.tn.nm,.int .i64 x.tn.st]] w λe w'=>UB x e/\Bw w w':=by
 obtain⟨⟨s1,s1',s1''⟩,⟨hl,s3⟩,s4⟩:=hs;have HA:Hid (X6 w b x.ls):=hat;have HS:Hid (∀i,(x.ls.getD i l_).le 1048576):=s3;have W:∀o,Bw w (w.alloc o):=λo=>(J4 _ _).alloc (J9 _) _;have HM:Hid (Wq x.ep x.ed=(decide (1<=x.ep/\x.ep<=200)&&decide (0<=x.ed/\x.ed<=1000))):=rfl;clear hat s3;cases h1:decide (1<=x.ep/\x.ep<=200)
 ·have E:Hid (Wq x.ep x.ed=false):=by rw[HM.out,h1];rfl
  go_in
  go_wp2_with fail
  refine(c15 x.ep 1 200 _).mono ?_;rintro e H⟨rfl,hw⟩;obtain rfl:=hw.symm;rw[h1]
  go_wp2_with fail
  refine(c97 1 x.tw x.fr x.ep x.ed x.ct x.tn.cd x.tn.st x.km.nm x.km.tl x.km.ar x.tn.tx x.tn.nm x.tn.over x.tn.has 0 x.tw 0 x.ep x.ed 0 0 0 x.km.nm x.km.tl x.km.ar ⟨#[]⟩ ⟨#[]⟩ false false b b x.ls.length x.ls.length d d _ hl hl).mono ?_;rintro e s⟨⟨r,rfl,hr⟩,D⟩;have P:Hid (r=true↔Bare x):=hr.trans (jr x);have y:Below (w.heap.size+1) (w.alloc (.cells #[.int .i64 1,.int .i64 x.tw,.int .i64 x.fr,.int .i64 x.ep,.int .i64 x.ed,.string x.km.nm,.string x.km.tl,.string x.km.ar,.slice b x.ls.length d,.int .i64 x.ct,.bool x.tn.over,.int .i64 x.tn.cd,.string x.tn.tx,.bool x.tn.has,.string x.tn.nm,.int .i64 x.tn.st] 75)) s:=Tq D;have A:Bw w s:=(W _).trans (y.mono (by omega));have J:w.heap.size<s.heap.size:=by have:=y.size;simp at this;omega
  have B:E5 s w.heap.size [.int .i64 1,.int .i64 x.tw,.int .i64 x.fr,.int .i64 x.ep,.int .i64 x.ed,.string x.km.nm,.string x.km.tl,.string x.km.ar,.slice b x.ls.length d,.int .i64 x.ct,.bool x.tn.over,.int .i64 x.tn.cd,.string x.tn.tx,.bool x.tn.has,.string x.tn.nm,.int .i64 x.tn.st]:=λj v h=>(y.cell (p:=⟨w.heap.size,j,none⟩) (by show w.heap.size<w.heap.size+1;omega)).trans (by simp[go_sem,h]);clear hr D y;have a1:=B 1 _ rfl;cases r
  ·have t:Hid (UB x (.returned (.string ⟨#[]⟩))):=Uj (λh=>absurd (E.out.symm.trans h.2.2.1) (by decide));go_wp2;go_ret;exact⟨t.out,A⟩
  have t:Hid (UB x (.returned (.string ⟨#[]⟩))):=Uj (λh=>absurd (E.out.symm.trans h.2.2.1) (by decide));go_wp2;go_ret;exact⟨t.out,A⟩
 cases h2:decide (0<=x.ed/\x.ed<=1000)
 ·have E:Hid (Wq x.ep x.ed=false):=by rw[HM.out,h1,h2];rfl
  go_in
  go_wp2_with fail
  refine(c15 x.ep 1 200 _).mono ?_;rintro e H⟨rfl,hw⟩;obtain rfl:=hw.symm;rw[h1]
  go_wp2_with fail
  refine(c15 x.ed 0 1000 _).mono ?_;rintro e H⟨rfl,hw⟩;obtain rfl:=hw.symm;rw[h2]
  go_wp2_with fail
  refine(c97 1 x.tw x.fr x.ep x.ed x.ct x.tn.cd x.tn.st x.km.nm x.km.tl x.km.ar x.tn.tx x.tn.nm x.tn.over x.tn.has 0 x.tw 0 x.ep x.ed 0 0 0 x.km.nm x.km.tl x.km.ar ⟨#[]⟩ ⟨#[]⟩ false false b b x.ls.length x.ls.length d d _ hl hl).mono ?_;rintro e s⟨⟨r,rfl,hr⟩,D⟩;have P:Hid (r=true↔Bare x):=hr.trans (jr x);have y:Below (w.heap.size+1) (w.alloc (.cells #[.int .i64 1,.int .i64 x.tw,.int .i64 x.fr,.int .i64 x.ep,.int .i64 x.ed,.string x.km.nm,.string x.km.tl,.string x.km.ar,.slice b x.ls.length d,.int .i64 x.ct,.bool x.tn.over,.int .i64 x.tn.cd,.string x.tn.tx,.bool x.tn.has,.string x.tn.nm,.int .i64 x.tn.st] 75)) s:=Tq D;have A:Bw w s:=(W _).trans (y.mono (by omega));have J:w.heap.size<s.heap.size:=by have:=y.size;simp at this;omega
  have B:E5 s w.heap.size [.int .i64 1,.int .i64 x.tw,.int .i64 x.fr,.int .i64 x.ep,.int .i64 x.ed,.string x.km.nm,.string x.km.tl,.string x.km.ar,.slice b x.ls.length d,.int .i64 x.ct,.bool x.tn.over,.int .i64 x.tn.cd,.string x.tn.tx,.bool x.tn.has,.string x.tn.nm,.int .i64 x.tn.st]:=λj v h=>(y.cell (p:=⟨w.heap.size,j,none⟩) (by show w.heap.size<w.heap.size+1;omega)).trans (by simp[go_sem,h]);clear hr D y;have a1:=B 1 _ rfl;cases r
  ·have t:Hid (UB x (.returned (.string ⟨#[]⟩))):=Uj (λh=>absurd (E.out.symm.trans h.2.2.1) (by decide));go_wp2;go_ret;exact⟨t.out,A⟩
  have t:Hid (UB x (.returned (.string ⟨#[]⟩))):=Uj (λh=>absurd (E.out.symm.trans h.2.2.1) (by decide));go_wp2;go_ret;exact⟨t.out,A⟩
 have E:Hid (Wq x.ep x.ed=true):=by rw[HM.out,h1,h2];rfl
 have q1:=Wn h1;have q2:=Wn h2
 go_in
 go_wp2_with fail
 refine(c15 x.ep 1 200 _).mono ?_;rintro e H⟨rfl,hw⟩;obtain rfl:=hw.symm;rw[h1]
 go_wp2_with fail
 refine(c15 x.ed 0 1000 _).mono ?_;rintro e H⟨rfl,hw⟩;obtain rfl:=hw.symm;rw[h2]
 go_wp2_with fail
 refine(c97 1 x.tw x.fr x.ep x.ed x.ct x.tn.cd x.tn.st x.km.nm x.km.tl x.km.ar x.tn.tx x.tn.nm x.tn.over x.tn.has 0 x.tw 0 x.ep x.ed 0 0 0 x.km.nm x.km.tl x.km.ar ⟨#[]⟩ ⟨#[]⟩ false false b b x.ls.length x.ls.length d d _ hl hl).mono ?_;rintro e s⟨⟨r,rfl,hr⟩,D⟩;have P:Hid (r=true↔Bare x):=hr.trans (jr x);have y:Below (w.heap.size+1) (w.alloc (.cells #[.int .i64 1,.int .i64 x.tw,.int .i64 x.fr,.int .i64 x.ep,.int .i64 x.ed,.string x.km.nm,.string x.km.tl,.string x.km.ar,.slice b x.ls.length d,.int .i64 x.ct,.bool x.tn.over,.int .i64 x.tn.cd,.string x.tn.tx,.bool x.tn.has,.string x.tn.nm,.int .i64 x.tn.st] 75)) s:=Tq D;have A:Bw w s:=(W _).trans (y.mono (by omega));have J:w.heap.size<s.heap.size:=by have:=y.size;simp at this;omega
 have B:E5 s w.heap.size [.int .i64 1,.int .i64 x.tw,.int .i64 x.fr,.int .i64 x.ep,.int .i64 x.ed,.string x.km.nm,.string x.km.tl,.string x.km.ar,.slice b x.ls.length d,.int .i64 x.ct,.bool x.tn.over,.int .i64 x.tn.cd,.string x.tn.tx,.bool x.tn.has,.string x.tn.nm,.int .i64 x.tn.st]:=λj v h=>(y.cell (p:=⟨w.heap.size,j,none⟩) (by show w.heap.size<w.heap.size+1;omega)).trans (by simp[go_sem,h]);clear hr D y;have a1:=B 1 _ rfl;have a5:=B 5 _ rfl;have Z:=B 6 _ rfl;have Y:=B 7 _ rfl;cases r
 ·have t:Hid (UB x (.returned (.string ⟨#[]⟩))):=Uj (λh=>absurd (P.out.2 h.1) Jh);go_wp2;go_ret;exact⟨t.out,A⟩
 go_wp2_with fail
 refine(c15 x.tw 1 4 _).mono ?_;rintro e H⟨rfl,hw⟩;obtain rfl:=hw.symm;cases h3:decide (1<=x.tw/\x.tw<=4)
 ·have t:Hid (UB x (.returned (.string ⟨#[]⟩))):=Uj (λh=>yA h3 h.2.1);go_wp2;go_ret;exact⟨t.out,A⟩
 have q3:=Wn h3
 go_wp2_with fail
 refine(c98 x.km s ⟨by omega,by omega,by omega⟩).mono ?_;rintro e U⟨rfl,N⟩;have O:Bw w U:=A.trans (N.mono A.size);have hz2:w.heap.size<U.heap.size:=G9 J N.size;have ZB:=B.below N J;have X:=ZB 8 _ rfl;clear N a1 a5 Z Y B;cases h4:Xe x.km
 ·have t:Hid (UB x (.returned (.string ⟨#[]⟩))):=Uj (λh=>absurd (h4.symm.trans h.2.2.2.1) (by decide));go_wp2;go_ret;exact⟨t.out,O⟩
 go_wp2_with fail
 refine(c93 b d x.ls U hl HS.out (Z4 HA.out O)).mono ?_;rintro e R⟨⟨r,rfl,hr⟩,L⟩;have C:Bw w R:=O.trans (L.mono O.size);have l:w.heap.size<R.heap.size:=G9 hz2 L.size;have m:=ZB.below L hz2;clear L X ZB;cases r
 ·have t:Hid (UB x (.returned (.string ⟨#[]⟩))):=Uj (λh=>absurd (hr.2 h.2.2.2.2) Jh);go_wp2;go_ret;exact⟨t.out,C⟩
 have HLO:Hid (Ee x.ls):=hr.1 rfl;have HOK:Hid (Ze x):=⟨P.out.1 (by first|rfl|trivial),q3,E.out,h4,HLO.out⟩;have a0:=m 0 _ rfl;have a1:=m 1 _ rfl;have a2:=m 2 _ rfl;have a3:=m 3 _ rfl;have a4:=m 4 _ rfl;have a5:=m 5 _ rfl;have Z:=m 6 _ rfl;have Y:=m 7 _ rfl;have a8:=m 8 _ rfl;have a9:=m 9 _ rfl;have a10:=m 10 _ rfl;have a11:=m 11 _ rfl;have a12:=m 12 _ rfl;have a13:=m 13 _ rfl;have a14:=m 14 _ rfl;have a15:=m 15 _ rfl;clear hr m;have z1:=Wi x.tw (by omega) (by omega);have z2:=TM x (by omega) (by omega) (by omega) (by omega);have z3:=Le x.km.ar;have z4:=ZI x.ls HLO.out HS.out;have k0:¬9223372036854775807<6+(Y2 (dec x.tw)).size:=by omega
 have k1:¬9223372036854775807<6+(Y2 (dec x.tw)).size+(Y2 (jg x)).size:=by omega
 have k2':¬9223372036854775807<=6+(Y2 (dec x.tw)).size+(Y2 (jg x)).size:=by omega
 have k2:¬9223372036854775807<6+(Y2 (dec x.tw)).size+(Y2 (jg x)).size+1:=by omega
 have k3:¬9223372036854775807<6+(Y2 (dec x.tw)).size+(Y2 (jg x)).size+1+x.km.tl.size:=by omega
 have k4':¬9223372036854775807<=6+(Y2 (dec x.tw)).size+(Y2 (jg x)).size+1+x.km.tl.size:=by omega
 have k4:¬9223372036854775807<6+(Y2 (dec x.tw)).size+(Y2 (jg x)).size+1+x.km.tl.size+1:=by omega
 have k5:¬9223372036854775807<6+(Y2 (dec x.tw)).size+(Y2 (jg x)).size+1+x.km.tl.size+1+(Y2 (J5 x.km.ar.data.toList)).size:=by omega
 have k6':¬9223372036854775807<=6+(Y2 (dec x.tw)).size+(Y2 (jg x)).size+1+x.km.tl.size+1+(Y2 (J5 x.km.ar.data.toList)).size:=by omega
 have k6:¬9223372036854775807<6+(Y2 (dec x.tw)).size+(Y2 (jg x)).size+1+x.km.tl.size+1+(Y2 (J5 x.km.ar.data.toList)).size+1:=by omega
 have k7:¬9223372036854775807<6+(Y2 (dec x.tw)).size+(Y2 (jg x)).size+1+x.km.tl.size+1+(Y2 (J5 x.km.ar.data.toList)).size+1+(Y2 (Y9 x.ls)).size:=by omega
 have HE:Hid ((⟨#[111,102,102,101,114,32]⟩:BY)++Y2 (dec x.tw)++Y2 (jg x)++⟨#[32]⟩++x.km.tl++⟨#[32]⟩++Y2 (J5 x.km.ar.data.toList)++⟨#[10]⟩++Y2 (Y9 x.ls)=Y2 (Jr x)):=UM x;have h63:∀u,Calls prog 100 #[.agg #[.int .i64 1,.int .i64 x.tw,.int .i64 x.fr,.int .i64 x.ep,.int .i64 x.ed,.string x.km.nm,.string x.km.tl,.string x.km.ar,.slice b x.ls.length d,.int .i64 x.ct,.bool x.tn.over,.int .i64 x.tn.cd,.string x.tn.tx,.bool x.tn.has,.string x.tn.nm,.int .i64 x.tn.st]] u λe w'=>e=.returned (.string (Y2 (jg x)))/\Bw u w':=λu=>a4F ⟨1,x.tw,x.fr,x.ep,x.ed,x.km,x.ls,x.ct,x.tn⟩ b d u (by show 0<=x.ep;omega) (by show x.ep<=1000;omega) (by show 0<=x.ed;omega) (by show x.ed<=1000;omega) (by show x.km.nm.size<=1048600;omega)
 go_wp2_with fail
 refine wp_region_held_drew (S:=(λu=>u.cell? ⟨w.heap.size,0,none⟩=some (.int .i64 1)/\u.cell? ⟨w.heap.size,1,none⟩=some (.int .i64 x.tw)/\u.cell? ⟨w.heap.size,2,none⟩=some (.int .i64 x.fr)/\u.cell? ⟨w.heap.size,3,none⟩=some (.int .i64 x.ep)/\u.cell? ⟨w.heap.size,4,none⟩=some (.int .i64 x.ed)/\u.cell? ⟨w.heap.size,5,none⟩=some (.string x.km.nm)/\u.cell? ⟨w.heap.size,6,none⟩=some (.string x.km.tl)/\u.cell? ⟨w.heap.size,7,none⟩=some (.string x.km.ar)/\u.cell? ⟨w.heap.size,8,none⟩=some (.slice b x.ls.length d)/\u.cell? ⟨w.heap.size,9,none⟩=some (.int .i64 x.ct)/\u.cell? ⟨w.heap.size,10,none⟩=some (.bool x.tn.over)/\u.cell? ⟨w.heap.size,11,none⟩=some (.int .i64 x.tn.cd)/\u.cell? ⟨w.heap.size,12,none⟩=some (.string x.tn.tx)/\u.cell? ⟨w.heap.size,13,none⟩=some (.bool x.tn.has)/\u.cell? ⟨w.heap.size,14,none⟩=some (.string x.tn.nm)/\u.cell? ⟨w.heap.size,15,none⟩=some (.int .i64 x.tn.st))) (by kernel_rfl) ?_ (λhHeld=>?_)
 · ((try dsimp only);go_keep)
 refine U8 0 ?_;refine U8 1 ?_;refine U8 4 ?_;refine U8 8 ?_;refine U8 9 ?_;refine U8 10 ?_;refine U8 13 ?_;refine U8 14 ?_;refine U8 15 ?_;refine U8 19 ?_;refine U8 20 ?_;refine rq 2 (λK z=>?_);go_simp;refine(c99 (x.tw.toNat+1) x.tw _ (by omega) (by omega) (su _)).mono ?_;rintro e I⟨rfl,hb4⟩;have a:Hid (Bw R I):=((J4 _ _).drew).trans hb4;have b0:=(a.out.cell (p:=⟨w.heap.size,0,none⟩) (by exact l)).trans a0;have b1:=(a.out.cell (p:=⟨w.heap.size,1,none⟩) (by exact l)).trans a1;have b2:=(a.out.cell (p:=⟨w.heap.size,2,none⟩) (by exact l)).trans a2;have b3:=(a.out.cell (p:=⟨w.heap.size,3,none⟩) (by exact l)).trans a3;have b4:=(a.out.cell (p:=⟨w.heap.size,4,none⟩) (by exact l)).trans a4;have b5:=(a.out.cell (p:=⟨w.heap.size,5,none⟩) (by exact l)).trans a5;have b6:=(a.out.cell (p:=⟨w.heap.size,6,none⟩) (by exact l)).trans Z;have b7:=(a.out.cell (p:=⟨w.heap.size,7,none⟩) (by exact l)).trans Y;have X:=(a.out.cell (p:=⟨w.heap.size,8,none⟩) (by exact l)).trans a8;have b9:=(a.out.cell (p:=⟨w.heap.size,9,none⟩) (by exact l)).trans a9;have b10:=(a.out.cell (p:=⟨w.heap.size,10,none⟩) (by exact l)).trans a10;have b11:=(a.out.cell (p:=⟨w.heap.size,11,none⟩) (by exact l)).trans a11;have b12:=(a.out.cell (p:=⟨w.heap.size,12,none⟩) (by exact l)).trans a12;have b13:=(a.out.cell (p:=⟨w.heap.size,13,none⟩) (by exact l)).trans a13;have b14:=(a.out.cell (p:=⟨w.heap.size,14,none⟩) (by exact l)).trans a14;have b15:=(a.out.cell (p:=⟨w.heap.size,15,none⟩) (by exact l)).trans a15;have k:w.heap.size<I.heap.size:=G9 l a.out.size;clear hb4
 go_wp2_with fail
 clear hHeld;refine rF z λhHeld=>?_;clear z K;refine U8 3 ?_;refine rq 5 (λK z=>?_);go_simp;refine(h63 I).mono ?_;rintro e Q⟨rfl,hb5⟩;have c:Hid (Bw I Q):=hb5;have d0:=(c.out.cell (p:=⟨w.heap.size,0,none⟩) (by exact k)).trans b0;have d1:=(c.out.cell (p:=⟨w.heap.size,1,none⟩) (by exact k)).trans b1;have d2:=(c.out.cell (p:=⟨w.heap.size,2,none⟩) (by exact k)).trans b2;have d3:=(c.out.cell (p:=⟨w.heap.size,3,none⟩) (by exact k)).trans b3;have d4:=(c.out.cell (p:=⟨w.heap.size,4,none⟩) (by exact k)).trans b4;have d5:=(c.out.cell (p:=⟨w.heap.size,5,none⟩) (by exact k)).trans b5;have d6:=(c.out.cell (p:=⟨w.heap.size,6,none⟩) (by exact k)).trans b6;have d7:=(c.out.cell (p:=⟨w.heap.size,7,none⟩) (by exact k)).trans b7;have d8:=(c.out.cell (p:=⟨w.heap.size,8,none⟩) (by exact k)).trans X;have d9:=(c.out.cell (p:=⟨w.heap.size,9,none⟩) (by exact k)).trans b9;have d10:=(c.out.cell (p:=⟨w.heap.size,10,none⟩) (by exact k)).trans b10;have d11:=(c.out.cell (p:=⟨w.heap.size,11,none⟩) (by exact k)).trans b11;have d12:=(c.out.cell (p:=⟨w.heap.size,12,none⟩) (by exact k)).trans b12;have d13:=(c.out.cell (p:=⟨w.heap.size,13,none⟩) (by exact k)).trans b13;have d14:=(c.out.cell (p:=⟨w.heap.size,14,none⟩) (by exact k)).trans b14;have d15:=(c.out.cell (p:=⟨w.heap.size,15,none⟩) (by exact k)).trans b15;have g:w.heap.size<Q.heap.size:=G9 k c.out.size;clear hb5
 go_wp2_with fail
 clear hHeld;refine rF z λhHeld=>?_;clear z K;refine U8 6 ?_;refine U8 7 ?_;refine U8 11 ?_;refine U8 12 ?_;refine rq 16 (λK z=>?_);go_simp;refine(eH x.km.ar _ (by omega)).mono ?_;rintro e F⟨rfl,hb6⟩;have f:Hid (Bw Q F):=hb6;have f0:=(f.out.cell (p:=⟨w.heap.size,0,none⟩) (by exact g)).trans d0;have f1:=(f.out.cell (p:=⟨w.heap.size,1,none⟩) (by exact g)).trans d1;have f2:=(f.out.cell (p:=⟨w.heap.size,2,none⟩) (by exact g)).trans d2;have f3:=(f.out.cell (p:=⟨w.heap.size,3,none⟩) (by exact g)).trans d3;have f4:=(f.out.cell (p:=⟨w.heap.size,4,none⟩) (by exact g)).trans d4;have f5:=(f.out.cell (p:=⟨w.heap.size,5,none⟩) (by exact g)).trans d5;have f6:=(f.out.cell (p:=⟨w.heap.size,6,none⟩) (by exact g)).trans d6;have f7:=(f.out.cell (p:=⟨w.heap.size,7,none⟩) (by exact g)).trans d7;have f8:=(f.out.cell (p:=⟨w.heap.size,8,none⟩) (by exact g)).trans d8;have f9:=(f.out.cell (p:=⟨w.heap.size,9,none⟩) (by exact g)).trans d9;have f10:=(f.out.cell (p:=⟨w.heap.size,10,none⟩) (by exact g)).trans d10;have f11:=(f.out.cell (p:=⟨w.heap.size,11,none⟩) (by exact g)).trans d11;have f12:=(f.out.cell (p:=⟨w.heap.size,12,none⟩) (by exact g)).trans d12;have f13:=(f.out.cell (p:=⟨w.heap.size,13,none⟩) (by exact g)).trans d13;have f14:=(f.out.cell (p:=⟨w.heap.size,14,none⟩) (by exact g)).trans d14;have f15:=(f.out.cell (p:=⟨w.heap.size,15,none⟩) (by exact g)).trans d15;have q:w.heap.size<F.heap.size:=G9 g f.out.size;have V:Bw w F:=((C.trans (a.out.mono C.size)).trans (c.out.mono (C.trans (a.out.mono C.size)).size)).trans (f.out.mono ((C.trans (a.out.mono C.size)).trans (c.out.mono (C.trans (a.out.mono C.size)).size)).size);clear hb6
 go_wp2_with fail
 clear hHeld;refine rF z λhHeld=>?_;clear z K;refine U8 17 ?_;refine U8 18 ?_;refine rq 21 (λK z=>?_);go_simp;refine(a1o b d x.ls F HLO.out HS.out (Z4 HA.out V)).mono ?_;rintro e w7⟨rfl,hb7⟩;have n:Hid (Bw F w7):=hb7;have g0:=(n.out.cell (p:=⟨w.heap.size,0,none⟩) (by exact q)).trans f0;have g1:=(n.out.cell (p:=⟨w.heap.size,1,none⟩) (by exact q)).trans f1;have g2:=(n.out.cell (p:=⟨w.heap.size,2,none⟩) (by exact q)).trans f2;have g3:=(n.out.cell (p:=⟨w.heap.size,3,none⟩) (by exact q)).trans f3;have g4:=(n.out.cell (p:=⟨w.heap.size,4,none⟩) (by exact q)).trans f4;have g5:=(n.out.cell (p:=⟨w.heap.size,5,none⟩) (by exact q)).trans f5;have g6:=(n.out.cell (p:=⟨w.heap.size,6,none⟩) (by exact q)).trans f6;have g7:=(n.out.cell (p:=⟨w.heap.size,7,none⟩) (by exact q)).trans f7;have g8:=(n.out.cell (p:=⟨w.heap.size,8,none⟩) (by exact q)).trans f8;have g9:=(n.out.cell (p:=⟨w.heap.size,9,none⟩) (by exact q)).trans f9;have g10:=(n.out.cell (p:=⟨w.heap.size,10,none⟩) (by exact q)).trans f10;have g11:=(n.out.cell (p:=⟨w.heap.size,11,none⟩) (by exact q)).trans f11;have g12:=(n.out.cell (p:=⟨w.heap.size,12,none⟩) (by exact q)).trans f12;have g13:=(n.out.cell (p:=⟨w.heap.size,13,none⟩) (by exact q)).trans f13;have g14:=(n.out.cell (p:=⟨w.heap.size,14,none⟩) (by exact q)).trans f14;have g15:=(n.out.cell (p:=⟨w.heap.size,15,none⟩) (by exact q)).trans f15;clear hb7
 go_wp2_with fail
 clear hHeld;refine rF z λhHeld=>?_;clear z K;refine U8 22 ?_;refine U8 23 ?_;refine wpAnyH_done (by kernel_rfl) ?_ _;have hB7:Bw w w7:=V.trans (n.out.mono V.size);clear hHeld;go_wp2;go_ret;exact⟨⟨_,rfl,.inl ⟨HOK.out,HE.out⟩⟩,hB7⟩
