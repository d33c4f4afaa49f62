import Derived.Test.YtbgdfcmeheaiiaaGreatDoorA4
import Derived.Deep.RegionWith
import Derived.Lib.IndexLaws
set_option linter.unusedVariables false
set_option linter.unusedSimpArgs false
set_option maxHeartbeats 8000000
set_option maxRecDepth 100000
namespace Go.Proofs.YtbgdfcmeheaiiaaGreatDoor
open Proofs.Tryz Go.RowKit
variable{l:List UInt8}{w:World}
theorem O9{a b:Bool}(h:a=b):Ending.returned (.bool a)=.returned (.bool b):=by rw[h]
theorem Jd(p:UInt8->Bool)(s:BY)(k:Nat)(h:k<s.size)(ha:(s.data.toList.take k).all p=true)(a:p s[k]=true):(s.data.toList.take (k+1)).all p=true:=by
 rw[take_snoc s k h,Dp,ha];simpa using a
theorem Ye(p:UInt8->Bool)(s:BY)(k:Nat)(h:k<s.size)(a:p s[k]=false):s.data.toList.all p=false:=by
 rw[List.all_eq_false];exact⟨s[k],by simp[aJ],by simp[a]⟩
theorem Ed(p:UInt8->Bool)(s:BY)(k:Nat)(h:s.size<=k)(ha:(s.data.toList.take k).all p=true):s.data.toList.all p=true:=by
 rwa[p_ (by simpa using h)]at ha
theorem Yy(s:BY)(h:¬(1<=s.size/\s.size<=20)):Y5 s.data.toList=false:=by
 unfold Y5;have:(decide (1<=s.data.toList.length/\s.data.toList.length<=20))=false:=by
  simp only[Ws];simpa using h
 rw[this];rfl
theorem DC(s:BY)(h:1<=s.size/\s.size<=20):Y5 s.data.toList=s.data.toList.all Rj:=by
 unfold Y5;have:(decide (1<=s.data.toList.length/\s.data.toList.length<=20))=true:=by
  simp only[Zc];simpa using h
 rw[this];rfl
theorem c124(s:BY)(w:World)(hs:s.size<=1048700):
 Calls prog 124 #[.string s] w λe w'=>e=.returned (.bool (Y5 s.data.toList))/\w'=w:=by
 by_cases h:1<=s.size/\s.size<=20
 ·have b:=U0 (DC s h);obtain⟨h1,h2⟩:=h
  go_in
  go_wp2;go_loop[14] (λi=>∃k:Nat,k<=s.size/\i=.int .i64 k/\Hid ((s.data.toList.take k).all Rj=true)) (λi=>s.size-(RowKit.intOf i).toNat);exact⟨0,I4 _,rfl,rfl⟩;obtain⟨k,hk,rfl,ha⟩:=hrel;by_cases d:k<s.size
  ·by_cases a:Rj s[k]=true
   ·have f:=(jq _).1 a;have g:=Hid.out ha;have j:=U0 (Jd _ s k d ha.out a);clear a g;go_wp2
    go_round
    exact⟨k+1,O0,by go_num,j⟩;exact P9
   have hf:=U0 (Ye _ s k d (by simpa using a));have f:(s[k].toNat:Int)<33\/126<(s[k].toNat:Int):=by
    rcases bn (s[k].toNat:Int) 33 with h|h
    ·exact .inl h
    rcases bn 126 (s[k].toNat:Int)with c|c
    ·exact .inr c
    exact absurd ((jq _).2 ⟨h,c⟩) a
   clear a;rcases f with a|a
   all_goals
    go_wp2
    all_goals go_ret
    all_goals exact⟨O9 (by rw[b.out,hf.out]),rfl⟩
  go_wp2;go_ret;exact⟨O9 (by rw[b.out,Ed _ s k O0 ha.out]),rfl⟩
 have b:=U0 (Yy s h);by_cases h1:1<=s.size
 all_goals
  go_in
  go_wp2
  all_goals go_ret
  all_goals exact⟨O9 (by rw[b.out]),rfl⟩
theorem EM(s:BY)(w:World)(hs:s.size<=1048700):
 Calls prog 44 #[.string s] w λe w'=>e=.returned (.bool (Y5 s.data.toList))/\w'=w:=by
 by_cases h:1<=s.size/\s.size<=20
 ·have b:=U0 (DC s h);have hd:decide ((1:Int)<=(s.size:Int)/\(s.size:Int)<=20)=true:=X7
  go_in
  go_wp2_with fail
  refine(c15 _ _ _ _).mono ?_;rintro e w'⟨rfl,rfl⟩;rw[hd];go_wp2;go_loop[3] (λi=>∃k:Nat,k<=s.size/\i=.int .i64 k/\Hid ((s.data.toList.take k).all Rj=true)) (λi=>s.size-(RowKit.intOf i).toNat);exact⟨0,I4 _,rfl,rfl⟩;obtain⟨k,hk,rfl,ha⟩:=hrel;by_cases d:k<s.size
  ·by_cases a:Rj s[k]=true
   ·have f:=(jq _).1 a;have g:=U0 (Jd _ s k d ha.out a);clear a;go_wp2
    go_round
    exact⟨k+1,O0,by go_num,g⟩;exact P9
   have hf:=U0 (Ye _ s k d (by simpa using a));have f:(s[k].toNat:Int)<33\/126<(s[k].toNat:Int):=by
    rcases bn (s[k].toNat:Int) 33 with h|h
    ·exact .inl h
    rcases bn 126 (s[k].toNat:Int)with c|c
    ·exact .inr c
    exact absurd ((jq _).2 ⟨h,c⟩) a
   clear a;rcases f with a|a
   all_goals
    go_wp2
    all_goals go_ret
    all_goals exact⟨O9 (by rw[b.out,hf.out]),rfl⟩
  go_wp2;go_ret;exact⟨O9 (by rw[b.out,Ed _ s k O0 ha.out]),rfl⟩
 have b:=U0 (Yy s h);have hd:decide ((1:Int)<=(s.size:Int)/\(s.size:Int)<=20)=false:=by simp only[Ws];omega
 go_in
 go_wp2_with fail
 refine(c15 _ _ _ _).mono ?_;rintro e w'⟨rfl,rfl⟩;rw[hd];go_wp2;go_ret;exact⟨O9 (by rw[b.out]),rfl⟩
theorem Un(s:BY)(h:1<=s.size):s.data.toList.isEmpty=false:=by
 cases hl:s.data.toList with
 | nil=>
  have:s.data.toList.length=s.size:=O4;rw[hl]at this;simp at this;omega
 | cons a r=>rfl
theorem Cb{a b:Int}{x y:Bool}(h:a=b)(c:x=y):Ending.returned (.tuple #[.int .i64 a,.bool x])=.returned (.tuple #[.int .i64 b,.bool y]):=by rw[h,c]
def pR(l:List UInt8):Int:=if Yd l=true then val l else 0
theorem jh(l:List UInt8):Yb l=true↔l≠[]/\(l.headD 0=48->l=[48]):=by
 cases l with
 | nil=>simp[Yb]
 | cons a r=>
  by_cases h:a=48
  ·simp[Yb,h]
  simp[Yb,h]
theorem vH(h:Yb l=false):Yd l=false:=by simp[Yd,h]
theorem PK(h:l.all w_=false):Yd l=false:=by simp only[Yd,h,Fv,BI]
theorem OX(k:Nat)(h:40<val (l.take k)):Yd l=false:=by
 by_cases ha:l.all w_=true
 ·have:=Ko l ha k;have hd:decide (val l<=40)=false:=by simp only[Ws];omega
  simp only[Yd,hd,Fv]
 exact PK (by simpa using ha)
theorem bK(h1:Yb l=true)(h2:l.all w_=true)(a:val l<=40):Yd l=true:=by
 have hd:decide (val l<=40)=true:=by simpa using a
 simp only[Yd,h1,h2,hd,BJ]
theorem jL(h:Yd l=false):pR l=0:=by simp[pR,h]
theorem a0w(h:Yd l=true):pR l=val l:=by simp[pR,h]
theorem Xp(s:BY)(h:0<s.size):s.data.toList.headD 0=s[0]:=by
 have e:s.data.toList=s[0]::s.data.toList.tail:=by
  have hl:s.data.toList.length=s.size:=O4
  cases hd:s.data.toList with
  | nil=>rw[hd]at hl;simp at hl;omega
  | cons a r=>
   simp only[List.tail_cons]
   congr 1
   have:s[0]=s.data.toList[0]'(by simpa using h):=by simp[aJ]
   rw[this];simp[hd]
 rw[e];rfl
theorem zo(c:UInt8)(h:48<=(c.toNat:Int)/\(c.toNat:Int)<=57):IntKind.u8.wrap ((c.toNat:Int)-48)=(c.toNat:Int)-48:=by
 simp[IntKind.wrap,IntKind.signed,IntKind.bits];omega
theorem a4r(s:BY)(w:World)(hs:s.size<=1048700):
 Calls prog 230 #[.string s,.int .i64 40] w λe w'=>e=.returned (.tuple #[.int .i64 (pR s.data.toList),.bool (Yd s.data.toList)])/\w'=w:=by
 by_cases h0:s.size=0
 ·have e0:s.toList=[]:=by
   rw[ByteArray.toList_eq];exact La.1 (by simpa using h0)
  have a:Hid (Yd s.data.toList=false):=vH (by rw[<- ByteArray.toList_eq,e0];rfl)
  go_in
  go_wp2;go_ret2;exact⟨Cb (jL a.out).symm a.out.symm,rfl⟩
 have e0:s.toList.isEmpty=false:=by rw[ByteArray.toList_eq];exact Un s O0
 have e1:¬s.toList=[]:=λh=>by rw[h]at e0;cases e0
 have r:0<s.size:=O0;have g:=Xp s r;by_cases hl:Yb s.data.toList=true
 ·have v:=U0 hl;have hc:(s[0].toNat=48/\s.toList=[48])\/((s[0].toNat:Int)==48)=false:=by
   by_cases c:s[0].toNat=48
   ·refine .inl ⟨c,?_⟩;have h1:s[0]=48:=Zh.1 c;rw[ByteArray.toList_eq];exact((jh _).1 hl).2 (by rw[g];exact h1)
   exact .inr X7
  clear hl g;rcases hc with⟨c,d⟩|c
  all_goals
   go_in
   go_wp2;go_loop[6,21] (λn i=>∃k:Nat,k<=s.size/\i=.int .i64 k/\n=.int .i64 (val (s.data.toList.take k))/\0<=val (s.data.toList.take k)/\val (s.data.toList.take k)<=40/\Hid ((s.data.toList.take k).all w_=true)) (λ_ i=>s.size-(RowKit.intOf i).toNat);exact⟨0,I4 _,rfl,rfl,by simp[val],by simp[val],rfl⟩;obtain⟨k,hk,rfl,rfl,hv0,q,ha⟩:=hrel;by_cases j:k<s.size
   ·by_cases b:w_ s[k]=true
    ·have l:=(Ae _).1 b;have hw:=zo _ l;have u:=U0 (Jd _ s k j ha.out b);have f:Hid (val (s.data.toList.take (k+1))=val (s.data.toList.take k)*10+((s[k].toNat:Int)-48)):=by
      rw[take_snoc s k j];exact Qe _ _
     clear b;by_cases t:40<val (s.data.toList.take k)*10+((s[k].toNat:Int)-48)
     ·have a:=U0 (OX (k+1) (by rw[f.out];exact t));go_wp2;go_ret2;exact⟨Cb (jL a.out).symm a.out.symm,rfl⟩
     go_wp2
     go_round
     exact⟨k+1,O0,by go_num,by rw[f.out],by rw[f.out];omega,by rw[f.out];omega,u⟩;exact P9
    have a:=U0 (PK (Ye _ s k j (by simpa using b)));have l:(s[k].toNat:Int)<48\/57<(s[k].toNat:Int):=by
     rcases bn (s[k].toNat:Int) 48 with h|h
     ·exact .inl h
     rcases bn 57 (s[k].toNat:Int)with o|o
     ·exact .inr o
     exact absurd ((Ae _).2 ⟨h,o⟩) b
    clear b;rcases l with b|b
    all_goals
     go_wp2
     all_goals go_ret2
     all_goals exact⟨Cb (jL a.out).symm a.out.symm,rfl⟩
   have p:=Ed _ s k O0 ha.out;have m:s.data.toList.take k=s.data.toList:=p_ X7;have a:=U0 (bK v.out p (by rw[<- m];exact q));have x:=U0 m;clear p m;go_wp2;go_ret2;exact⟨Cb (by rw[a0w a.out,x.out]) a.out.symm,rfl⟩
 have a:=U0 (vH (by simpa using hl));have c:s[0].toNat=48/\¬s.toList=[48]:=by
  rw[ByteArray.toList_eq]at e1 ⊢;rw[jh,g]at hl;by_cases h1:s[0]=48
  ·refine⟨by rw[h1];rfl,λd=>hl ⟨e1,λ_=>d⟩⟩
  exact absurd ⟨e1,λh=>absurd h h1⟩ hl
 obtain⟨c,d⟩:=c;have hz':(!s.toList==[48])=true:=by simpa using d
 clear g hl
 go_in
 go_wp2;go_ret2;exact⟨Cb (jL a.out).symm a.out.symm,rfl⟩
def Y2(l:List UInt8):BY:=⟨l.toArray⟩
theorem Y4(l:List UInt8):(Y2 l).size=l.length:=by simp[Y2,ByteArray.size]
theorem YO(l:List UInt8)(x:Int):Y2 (l++[UInt8.ofNat x.toNat])=Y2 l++strOfNums [x]:=by
 apply mg;simp[Y2,strOfNums]
theorem zY(u:World)(y:Int):(convert 258 9 (.slice (some ⟨u.heap.size,0,none⟩) 1 1)).run prog (u.alloc (.cells #[.int .u8 y] 5)).drew=.ok (.string (strOfNums [y])) (u.alloc (.cells #[.int .u8 y] 5)).drew:=
 run_convert_bytes_arg _ 258 5 underlying258 underlying5 _ 0 1 1 [y] rfl (λi hi=>by
  obtain rfl:i=0:=O0;simp) 9 underlying9
theorem a1y{u a:World}{y:Int}(b:Below (u.alloc (.cells #[.int .u8 y] 5)).drew.heap.size (u.alloc (.cells #[.int .u8 y] 5)).drew a):
 (convert 258 9 (.slice (some ⟨u.heap.size,0,none⟩) 1 1)).run prog a=.ok (.string (strOfNums [y])) a:=
 run_convert_bytes_arg _ 258 5 underlying258 underlying5 _ 0 1 1 [y] rfl (λi hi=>by
  obtain rfl:i=0:=O0;rw[b.cell O4];simp) 9 underlying9
theorem c99(f:Nat):∀(n:Int)(w:World),0<=n->n<=100000000->n.toNat<f->
 Calls prog 99 #[.int .i64 n] w λe w'=>e=.returned (.string (Y2 (dec n)))/\Bw w w':=by
 induction f with
 | zero=>intro n w _ _ h;omega
 | succ f ih=>
  intro n w h0 h1 hf;have hcv:=TR;have hcd:=zY;have hz:∀y,(strOfNums [y]).size=1:=λy=>strOfNums_size [y];by_cases h:n<10
  ·go_in
   go_wp2;go_ret;exact⟨by rw[dec_lt n h];rfl,P6⟩
  have hq:(Y2 (dec (n / 10))).size<=100000001:=by rw[Y4];exact qL _ O0 O0
  have H:Hid (∀w,Calls prog 99 #[.int .i64 (IntKind.i64.wrap (n.tdiv 10))] w λe w'=>e=.returned (vS (Y2 (dec (n / 10))))/\Bw w w'):=by
   rw[JS n h0 h1];exact λw=>ih (n / 10) w O0 O0 O0
  have b:Hid (Ending.returned (vS (Y2 (dec (n / 10))++strOfNums [48+n % 10]))=.returned (vS (Y2 (dec n)))):=by
   rw[Uo n O0,YO];rfl
  clear ih
  go_in
  go_wp2_with fail
  go_region_with(go_at_call 99;refine(H.out _).mono ?_;rintro e w1⟨rfl,a⟩;(try(have hcb:=a1y a)))
  all_goals go_wp2
  all_goals go_ret
  all_goals refine⟨?_,?_⟩
  all_goals first
   | exact b.out
   | exact(((J4 w.heap.size w).drew).trans a).alloc a.size _
   | exact(((J4 w.heap.size w).alloc Y8 _).drew).trans (a.mono O4)
def n29(l:List UInt8):Int:=if (1<=l.length/\l.length<=7)/\l.all w_=true/\dec (val l)=l then val l else -1
theorem lY(h:¬(1<=l.length/\l.length<=7)):n29 l=-1:=by unfold n29;rw[if_neg (λx=>h x.1)]
theorem iV(h:l.all w_=false):n29 l=-1:=by unfold n29;rw[if_neg (λx=>by rw[h]at x;cases x.2.1)]
theorem kV(h:dec (val l)≠l):n29 l=-1:=by unfold n29;rw[if_neg (λx=>h x.2.2)]
theorem rD(h:1<=l.length/\l.length<=7)(h2:l.all w_=true)(a:dec (val l)=l):n29 l=val l:=by unfold n29;rw[if_pos ⟨h,h2,a⟩]
theorem sO(l:List UInt8):decide (0<=n29 l/\n29 l<=40)=Yd l:=by
 by_cases h:Yd l=true
 ·rw[h];have d:=h;simp only[Yd,X_,Zc]at d;obtain⟨⟨h1,h2⟩,f⟩:=d;have hl:=Xw l h2 h1 f;have e:=((jh l).1 h1).1;have g:1<=l.length:=Us.2 e;rw[rD ⟨g,O0⟩ h2 (Yx l h2 h1).1];have:=Em l h2;simp only[Zc];omega
 have d:Yd l=false:=by simpa using h
 rw[d];simp only[Ws];intro⟨a,b⟩;unfold n29 at a b;by_cases c:(1<=l.length/\l.length<=7)/\l.all w_=true/\dec (val l)=l
 ·rw[D8 c]at a b;have hd:=(NH ((val l).toNat+1) (val l) a O0).1;rw[c.2.2]at hd;rw[bK hd c.2.1 b]at d;cases d
 rw[Y7 c]at a;omega
theorem KN(l:List UInt8)(h:l.all w_=true):val l<10 ^ l.length:=by
 revert h;refine Zt (P:=λl=>l.all w_=true->val l<10 ^ l.length) (by simp[val]) (λl c a h=>?_) l;rw[Dp]at h;simp only[qm,Tz,Ny,X_]at h;have:=a h.1;have hc:=(Ae c).1 h.2;rw[Qe,L9,Aj,Int.pow_succ];omega
theorem EN(l:List UInt8)(h:l.all w_=true)(hl:l.length<=7):val l<=10000000:=by
 have h1:=KN l h;have h2:(10:Int) ^ l.length<=10 ^ 7:=by exact_mod_cast Nat.pow_le_pow_right O0 hl
 omega
theorem QZ(s:BY)(w:World)(hs:s.size<=1048700):
 Calls prog 149 #[.string s] w λe w'=>e=.returned (.int .i64 (n29 s.data.toList))/\Bw w w':=by
 by_cases h:1<=s.size/\s.size<=7
 ·obtain⟨h1,h2⟩:=h
  go_in
  go_wp2;go_loop[3,4] (λn i=>∃k:Nat,k<=s.size/\i=.int .i64 k/\n=.int .i64 (val (s.data.toList.take k))/\0<=val (s.data.toList.take k)/\val (s.data.toList.take k)<=10000000/\Hid ((s.data.toList.take k).all w_=true)) (λ_ i=>s.size-(RowKit.intOf i).toNat);exact⟨0,I4 _,rfl,rfl,by simp[val],by simp[val],rfl⟩;obtain⟨k,hk,rfl,rfl,m,hv1,ha⟩:=hrel;by_cases c:k<s.size
  ·by_cases a:w_ s[k]=true
   ·have d:=(Ae _).1 a;have hw:=zo _ d;have l:=U0 (Jd _ s k c ha.out a);have g:Hid (val (s.data.toList.take (k+1))=val (s.data.toList.take k)*10+((s[k].toNat:Int)-48)):=by
     rw[take_snoc s k c];exact Qe _ _
    have p:=U0 (EN _ l.out X7);clear a;go_wp2
    go_round
    exact⟨k+1,O0,by go_num,by rw[g.out],by rw[g.out];omega,p.out,l⟩;exact P9
   have b:=U0 (iV (Ye _ s k c (by simpa using a)));have d:(s[k].toNat:Int)<48\/57<(s[k].toNat:Int):=by
    rcases bn (s[k].toNat:Int) 48 with h|h
    ·exact .inl h
    rcases bn 57 (s[k].toNat:Int)with f|f
    ·exact .inr f
    exact absurd ((Ae _).2 ⟨h,f⟩) a
   clear a;rcases d with a|a
   all_goals
    go_wp2
    all_goals go_ret
    all_goals exact⟨Np b.out.symm,J4 _ _⟩
  have q:=U0 (Ed _ s k O0 ha.out);have r:Hid (s.data.toList.take k=s.data.toList):=p_ X7
  go_wp2_with fail
  refine(c99 _ _ _ m O0 (su _)).mono ?_;rintro e w1⟨rfl,j⟩;rw[r.out];by_cases hd:dec (val s.data.toList)=s.data.toList
  ·have b:=U0 (rD (by simpa using⟨h1,h2⟩) q.out hd);have o:((Y2 (dec (val s.data.toList))).toList==s.toList)=true:=by
    rw[hd,ByteArray.toList_eq,ByteArray.toList_eq];simp[Y2]
   clear hd;go_wp2;go_ret;exact⟨Np b.out.symm,j⟩
  have b:=U0 (kV hd);have o:((Y2 (dec (val s.data.toList))).toList==s.toList)=false:=by
   rw[ByteArray.toList_eq,ByteArray.toList_eq];simpa[Y2]using hd
  clear hd;go_wp2;go_ret;exact⟨Np b.out.symm,j⟩
 have b:Hid (n29 s.data.toList=-1):=lY (by simpa using h);by_cases h1:1<=s.size
 all_goals
  go_in
  go_wp2
  all_goals go_ret
  all_goals exact⟨Np b.out.symm,J4 _ _⟩
def vr(c:Int)(l:List UInt8):Bool:=
 if c=0\/c=1 then decide (l.length<=300) else if c=2 then Yd l else if c=3 then l.isEmpty else if c=4\/c=5\/c=7 then Y5 l else false
theorem JM(h:Yd l=true):l.length<=2:=by
 simp only[Yd,X_,Zc]at h;exact Xw l h.1.2 h.1.1 h.2
theorem YD{c:Int}(h:300<l.length):vr c l=false:=by
 have h1:decide (l.length<=300)=false:=by simp only[Ws];omega
 have h2:Yd l=false:=by
  by_cases h2:Yd l=true
  ·have:=JM h2;omega
  simpa using h2
 have d:l.isEmpty=false:=by cases l with|nil=>simp at h|cons a r=>rfl
 have b:Y5 l=false:=by
  unfold Y5;have:decide (1<=l.length/\l.length<=20)=false:=by simp only[Ws];omega
  rw[this];rfl
 unfold vr;rw[h1,h2,d,b];split<;>(try rfl)
 split<;>(try rfl)
 split<;>(try rfl)
 split<;>rfl
theorem wO(c:Int)(s:BY)(w:World)(g:s.size<=1048700):
 Calls prog 187 #[.agg #[.int .i64 c,.string s]] w λe w'=>e=.returned (.bool (vr c s.data.toList))/\Bw w w':=by
 have b:s.data.toList.length=s.size:=O4;by_cases a:c=0\/c=1
 ·have hV:Hid (vr c s.data.toList=decide ((s.size:Int)<=300)):=by unfold vr;rw[if_pos a,b];simp[Hid];omega
  clear b;rcases a with rfl|rfl
  all_goals
   go_in
   go_wp2;go_ret;exact⟨O9 (by rw[hV.out]),P6⟩
 by_cases h2:c=2
 ·subst h2;have hV:Hid (vr 2 s.data.toList=Yd s.data.toList):=rfl;clear b a
  go_in
  go_wp2_with fail
  refine(a4r _ _ g).mono ?_;rintro e h⟨rfl,rfl⟩;go_wp2;go_ret;exact⟨O9 (by rw[hV.out]),P6⟩
 by_cases d:c=3
 ·subst d;have hV:Hid (vr 3 s.data.toList=s.toList.isEmpty):=by rw[ByteArray.toList_eq];rfl
  clear b a h2
  go_in
  go_wp2;go_ret;exact⟨O9 (by rw[hV.out]),P6⟩
 by_cases f:c=4\/c=5\/c=7
 ·have hV:Hid (vr c s.data.toList=Y5 s.data.toList):=by unfold vr;rw[if_neg a,if_neg h2,if_neg d,if_pos f];rfl
  clear b a h2 d;rcases f with rfl|rfl|rfl
  all_goals
   go_in
   go_wp2_with fail
   refine(c124 _ _ g).mono ?_;rintro e h⟨rfl,rfl⟩;go_wp2;go_ret;exact⟨O9 (by rw[hV.out]),P6⟩
 have hV:Hid (vr c s.data.toList=false):=by unfold vr;rw[if_neg a,if_neg h2,if_neg d,if_neg f];rfl
 have e0:(c==0)=false:=X7;have e1:(c==1)=false:=X7;have e2:(c==2)=false:=X7;have e3:(c==3)=false:=X7;have e4:(c==4)=false:=X7;have e5:(c==5)=false:=X7;have e7:(c==7)=false:=X7;clear b a h2 d f
 go_in
 go_wp2;go_ret;exact⟨O9 (by rw[hV.out]),P6⟩
theorem c94(c:Int)(s:BY)(w:World)(g:s.size<=1048700):
 Calls prog 94 #[.agg #[.int .i64 c,.string s]] w λe w'=>e=.returned (.bool (vr c s.data.toList))/\Bw w w':=by
 have b:s.data.toList.length=s.size:=O4;by_cases a5s:300<s.size
 ·have hV:Hid (vr c s.data.toList=false):=YD O0;clear b
  go_in
  go_wp2;go_ret;exact⟨O9 (by rw[hV.out]),P6⟩
 by_cases a:c=0\/c=1
 ·have hV:Hid (vr c s.data.toList=true):=by unfold vr;rw[if_pos a,b];simp[Hid];omega
  clear b;rcases a with rfl|rfl
  all_goals
   go_in
   go_wp2;go_ret;exact⟨O9 (by rw[hV.out]),P6⟩
 by_cases h2:c=2
 ·subst h2;have hV:Hid (vr 2 s.data.toList=Yd s.data.toList):=rfl;clear b a
  go_in
  go_wp2_with fail
  refine(QZ _ _ g).mono ?_;rintro e h⟨rfl,i⟩
  go_wp2_with fail
  refine(c15 _ _ _ _).mono ?_;rintro e w2⟨rfl,rfl⟩;go_wp2;go_ret;refine⟨O9 (by rw[hV.out];rw[<- sO];simp),P6.trans (i.mono O4)⟩
 by_cases d:c=3
 ·subst d;have hV:Hid (vr 3 s.data.toList=s.toList.isEmpty):=by rw[ByteArray.toList_eq];rfl
  clear b a h2
  go_in
  go_wp2;go_ret;exact⟨O9 (by rw[hV.out]),P6⟩
 by_cases f:c=4\/c=5\/c=7
 ·have hV:Hid (vr c s.data.toList=Y5 s.data.toList):=by unfold vr;rw[if_neg a,if_neg h2,if_neg d,if_pos f];rfl
  clear b a h2 d;rcases f with rfl|rfl|rfl
  all_goals
   go_in
   go_wp2_with fail
   refine(EM _ _ g).mono ?_;rintro e h⟨rfl,rfl⟩;go_wp2;go_ret;exact⟨O9 (by rw[hV.out]),P6⟩
 have hV:Hid (vr c s.data.toList=false):=by unfold vr;rw[if_neg a,if_neg h2,if_neg d,if_neg f];rfl
 have e0:(c==0)=false:=X7;have e1:(c==1)=false:=X7;have e2:(c==2)=false:=X7;have e3:(c==3)=false:=X7;have e4:(c==4)=false:=X7;have e5:(c==5)=false:=X7;have e7:(c==7)=false:=X7;clear b a h2 d f
 go_in
 go_wp2;go_ret;exact⟨O9 (by rw[hV.out]),P6⟩
def ql(l:List UInt8):Bool:=Yb l&&l.all w_&&decide (val l<=7)
def lI(l:List UInt8):Int:=if ql l=true then val l else 0
theorem oK(h:Yb l=false):ql l=false:=by simp[ql,h]
theorem SS(h:l.all w_=false):ql l=false:=by simp only[ql,h,Fv,BI]
theorem a0N(k:Nat)(h:7<val (l.take k)):ql l=false:=by
 by_cases ha:l.all w_=true
 ·have:=Ko l ha k;have hd:decide (val l<=7)=false:=by simp only[Ws];omega
  simp only[ql,hd,Fv]
 exact SS (by simpa using ha)
theorem a0K(h1:Yb l=true)(h2:l.all w_=true)(a:val l<=7):ql l=true:=by
 have hd:decide (val l<=7)=true:=by simpa using a
 simp only[ql,h1,h2,hd,BJ]
theorem iF(h:ql l=false):lI l=0:=by simp[lI,h]
theorem IE(h:ql l=true):lI l=val l:=by simp[lI,h]
theorem a1P(s:BY)(w:World)(hs:s.size<=1048700):
 Calls prog 230 #[.string s,.int .i64 7] w λe w'=>e=.returned (.tuple #[.int .i64 (lI s.data.toList),.bool (ql s.data.toList)])/\w'=w:=by
 by_cases h0:s.size=0
 ·have e0:s.toList=[]:=by
   rw[ByteArray.toList_eq];exact La.1 (by simpa using h0)
  have a:Hid (ql s.data.toList=false):=oK (by rw[<- ByteArray.toList_eq,e0];rfl)
  go_in
  go_wp2;go_ret2;exact⟨Cb (iF a.out).symm a.out.symm,rfl⟩
 have e0:s.toList.isEmpty=false:=by rw[ByteArray.toList_eq];exact Un s O0
 have e1:¬s.toList=[]:=λh=>by rw[h]at e0;cases e0
 have r:0<s.size:=O0;have g:=Xp s r;by_cases hl:Yb s.data.toList=true
 ·have v:=U0 hl;have hc:(s[0].toNat=48/\s.toList=[48])\/((s[0].toNat:Int)==48)=false:=by
   by_cases c:s[0].toNat=48
   ·refine .inl ⟨c,?_⟩;have h1:s[0]=48:=Zh.1 c;rw[ByteArray.toList_eq];exact((jh _).1 hl).2 (by rw[g];exact h1)
   exact .inr X7
  clear hl g;rcases hc with⟨c,d⟩|c
  all_goals
   go_in
   go_wp2;go_loop[6,21] (λn i=>∃k:Nat,k<=s.size/\i=.int .i64 k/\n=.int .i64 (val (s.data.toList.take k))/\0<=val (s.data.toList.take k)/\val (s.data.toList.take k)<=7/\Hid ((s.data.toList.take k).all w_=true)) (λ_ i=>s.size-(RowKit.intOf i).toNat);exact⟨0,I4 _,rfl,rfl,by simp[val],by simp[val],rfl⟩;obtain⟨k,hk,rfl,rfl,hv0,q,ha⟩:=hrel;by_cases j:k<s.size
   ·by_cases b:w_ s[k]=true
    ·have l:=(Ae _).1 b;have hw:=zo _ l;have u:=U0 (Jd _ s k j ha.out b);have f:Hid (val (s.data.toList.take (k+1))=val (s.data.toList.take k)*10+((s[k].toNat:Int)-48)):=by
      rw[take_snoc s k j];exact Qe _ _
     clear b;by_cases t:7<val (s.data.toList.take k)*10+((s[k].toNat:Int)-48)
     ·have a:=U0 (a0N (k+1) (by rw[f.out];exact t));go_wp2;go_ret2;exact⟨Cb (iF a.out).symm a.out.symm,rfl⟩
     go_wp2
     go_round
     exact⟨k+1,O0,by go_num,by rw[f.out],by rw[f.out];omega,by rw[f.out];omega,u⟩;exact P9
    have a:=U0 (SS (Ye _ s k j (by simpa using b)));have l:(s[k].toNat:Int)<48\/57<(s[k].toNat:Int):=by
     rcases bn (s[k].toNat:Int) 48 with h|h
     ·exact .inl h
     rcases bn 57 (s[k].toNat:Int)with o|o
     ·exact .inr o
     exact absurd ((Ae _).2 ⟨h,o⟩) b
    clear b;rcases l with b|b
    all_goals
     go_wp2
     all_goals go_ret2
     all_goals exact⟨Cb (iF a.out).symm a.out.symm,rfl⟩
   have p:=Ed _ s k O0 ha.out;have m:s.data.toList.take k=s.data.toList:=p_ X7;have a:=U0 (a0K v.out p (by rw[<- m];exact q));have x:=U0 m;clear p m;go_wp2;go_ret2;exact⟨Cb (by rw[IE a.out,x.out]) a.out.symm,rfl⟩
 have a:=U0 (oK (by simpa using hl));have c:s[0].toNat=48/\¬s.toList=[48]:=by
  rw[ByteArray.toList_eq]at e1 ⊢;rw[jh,g]at hl;by_cases h1:s[0]=48
  ·refine⟨by rw[h1];rfl,λd=>hl ⟨e1,λ_=>d⟩⟩
  exact absurd ⟨e1,λh=>absurd h h1⟩ hl
 obtain⟨c,d⟩:=c;have hz':(!s.toList==[48])=true:=by simpa using d
 clear g hl
 go_in
 go_wp2;go_ret2;exact⟨Cb (iF a.out).symm a.out.symm,rfl⟩
theorem a0F(l:List UInt8):((Lib.cut l [58]).2.2=true/\l=(Lib.cut l [58]).1++58::(Lib.cut l [58]).2.1/\(58:UInt8)∉(Lib.cut l [58]).1)\/((Lib.cut l [58]).2.2=false/\(Lib.cut l [58]).1=l/\(58:UInt8)∉l):=by
 unfold Lib.cut;rw[Lib.index_one];have hge:=Lib.indexByte_ge l 58;by_cases h:Lib.indexByte l 58=-1
 ·rw[h,Y7 O0];refine .inr ⟨rfl,rfl,λhm=>?_⟩;obtain⟨k,a,e⟩:=Ce hm;exact Lib.indexByte_none h k (by rw[D9 a,e])
 obtain⟨o,ho⟩:∃o:Nat,Lib.indexByte l 58=o:=⟨(Lib.indexByte l 58).toNat,O0⟩;obtain⟨h1,h2⟩:=Lib.indexByte_some ho;have hl:o<l.length:=by
  rcases P7 o l.length with h|h
  ·exact h
  rw[Mc h]at h1;cases h1
 rw[ho,D8 O0];refine .inl ⟨rfl,?_,λhm=>?_⟩
 ·simp only[KA,Aj];have hx:l[o]=58:=by rw[D9 hl]at h1;exact D_ h1
  conv=>lhs;rw[<- Qk o l,jA hl,hx]
 simp only[KA]at hm;obtain⟨k,a,e⟩:=Ce hm;rw[L_]at a;rw[fE]at e;exact h2 k O0 (by rw[D9 O0,e])
def Oc(w:World):Prop:=5<w.heap.size/\∃m,w.cell? ⟨5,0,none⟩=some (.int .i64 m)
theorem H9{w':World}(h:Oc w)(a:Bw w w'):Oc w':=by
 obtain⟨h1,m,hm⟩:=h;exact⟨G9 h1 a.size,m,by rw[a.cell (by exact h1)];exact hm⟩
theorem below_drewN(n:Nat):Bw w (w.drewN n):=⟨rfl,rfl,rfl,J9 _,λ_ _=>rfl⟩
theorem YR(l:List UInt8)(w:World)(hs:l.length<=1048700)(hm:Oc w):
 Calls prog 229 #[.string (Y2 l),.string ⟨#[58]⟩] w λe w'=>e=.returned (.tuple #[.string (Y2 (Lib.cut l [58]).1),.string (Y2 (Lib.cut l [58]).2.1),.bool (Lib.cut l [58]).2.2])/\Bw w w':=by
 obtain⟨_,m,hm⟩:=hm;refine(Tryz.strings_Cut (Y2 l) ⟨#[58]⟩ m w (by rw[Y4];omega) hm).mono ?_;rintro e w'⟨rfl,n,rfl⟩;exact⟨rfl,below_drewN n⟩
