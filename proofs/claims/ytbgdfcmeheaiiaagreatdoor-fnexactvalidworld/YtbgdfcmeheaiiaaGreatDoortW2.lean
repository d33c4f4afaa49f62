import Derived.Test.YtbgdfcmeheaiiaaGreatDooreY9
import Derived.Test.YtbgdfcmeheaiiaaGreatDoortT0
set_option linter.unusedVariables false
set_option linter.unusedSimpArgs false
set_option maxHeartbeats 8000000
set_option maxRecDepth 100000
namespace Go.Proofs.YtbgdfcmeheaiiaaGreatDoor
open Proofs.Tryz Go.RowKit
variable{w:World}{M:Int}{l:List UInt8}
theorem oL(l:List UInt8)(w:World)(hs:l.length<=1048700)(hm:Oc w):
 Calls prog 229 #[.string (Y2 l),.string ⟨#[32]⟩] w λe w'=>(∃y,e=.returned (.tuple #[.string (Y2 (O1 l)),.string (Y2 (Y1 l)),.bool y]))/\Below w.heap.size w w':=by
 obtain⟨_,m,hm⟩:=hm;refine(Tryz.strings_Cut (Y2 l) ⟨#[32]⟩ m w (by rw[Y4];omega) hm).mono ?_;rintro e w'⟨rfl,n,rfl⟩;refine⟨⟨(Lib.cut l [32]).2.2,?_⟩,below_drewN n⟩;rw[<- JI,<- JD];rfl
theorem GK{ss:LB}{ls:List (List UInt8)}(h:ss.map (·.data.toList)=ls):ss=ls.map Y2:=by
 rw[<- h,Ju]
 conv=>lhs;rw[<- xE ss]
 refine Zu λs _=>?_;exact yc rfl
theorem a2m(l:List UInt8)(w:World)(hs:l.length<=1048700)(hm:Oc w):
 Calls prog 276 #[.string (Y2 l),.string ⟨#[32]⟩,.int .i64 3] w λe w'=>(∃b,e=.returned (.slice (some ⟨w.heap.size,0,none⟩) (Vd l 2).length b)/\qc w' w.heap.size (Vd l 2))/\Below w.heap.size w w':=by
 obtain⟨_,m,hm⟩:=hm;refine(Tryz.strings_SplitN (Y2 l) ⟨#[32]⟩ 3 m w (by rw[Y4];omega) hm J6 O0 O0).mono ?_;have hd:Lib.splitB ⟨#[32]⟩ 0 (min 3 ((Y2 l).size+1)-1) (Y2 l)=(Vd l 2).map Y2:=by
  refine GK ?_;rw[Lib.splitB_data ⟨#[32]⟩ 0 (min 3 ((Y2 l).size+1)-1) (Y2 l),Y4,<- NM l];rfl
 have hlen:(Vd l 2).length<=min 3 ((Y2 l).size+1):=by
  have:=Lib.splitB_length_le ⟨#[32]⟩ 0 (min 3 ((Y2 l).size+1)-1) (Y2 l);rw[hd,Je]at this;omega
 rintro e w'⟨rfl,rfl⟩;rw[hd];refine⟨⟨_,by rw[Je],O4,λi a=>?_⟩,P6⟩;have hc:(Lib.cellsOf ((Vd l 2).map Y2) (min 3 ((Y2 l).size+1)))[i]?=some (vS (Y2 ((Vd l 2).getD i []))):=by
  unfold Lib.cellsOf;rw[List.getElem?_toArray,R_ (by simpa using a)];simp[a]
 rw[<- hc];simp
theorem rz3{u:World}(a:Below (w.heap.size+1) (w.alloc (.cells #[.string ⟨#[]⟩,.string ⟨#[]⟩,.string ⟨#[]⟩] 68)) u):
 (u.cell? ⟨w.heap.size,0,none⟩=some (.string ⟨#[]⟩)/\u.cell? ⟨w.heap.size,1,none⟩=some (.string ⟨#[]⟩)/\u.cell? ⟨w.heap.size,2,none⟩=some (.string ⟨#[]⟩))/\u.frozen? ⟨w.heap.size,0,none⟩=false/\u.frozen? ⟨w.heap.size,1,none⟩=false/\u.frozen? ⟨w.heap.size,2,none⟩=false:=by
 have c:∀j,u.cell? (aW w j)=(w.alloc (.cells #[vE,vE,vE] 68)).cell? (aW w j):=λj=>a.cell O4;have f:∀j,u.frozen? (aW w j)=(w.alloc (.cells #[vE,vE,vE] 68)).frozen? (aW w j):=λj=>a.frozen O4;rw[c,c,c,f,f,f];simp
theorem qQ{p q:Addr}{x:Value}(a:q.block≠p.block)(h:w.cell? p=some x)(v:Value):(w.setCell q v).cell? p=some x:=by
 rw[Qa _ _ _ _ (λe=>a (by rw[e]))];exact h
theorem nP(l:List UInt8)(w:World)(a:l.length<=1048700):Calls prog 235 #[.string (Y2 l)] w λe w'=>UN l e/\Below w.heap.size w w':=a3F (Y2 l) w (by rw[Y4];exact a)
def a0f(l:List UInt8)(e:Ending):Prop:=∃(x:M3)(ok:Bool),e=.returned (.tuple #[x.v,.bool ok])/\iy l x ok
theorem a2g(l:List UInt8)(w:World)(hs:l.length<=16000)(Z:Oc w):
 Calls prog 255 #[.string (Y2 l)] w λe w'=>a0f l e/\Below w.heap.size w w':=by
 have C:(∀y,Xe y=true->l≠Ad y)->Hid (a0f l (.returned (.tuple #[.agg #[vE,vE,vE],.bool false]))):=λh=>⟨C_,false,rfl,zS h⟩;have q:Below w.heap.size w (w.alloc (.cells #[vE,vE,vE] 68)):=P6
 go_in
 go_wp2_with fail
 refine(a2m l _ O0 (H9 Z q)).mono ?_;rintro e m⟨⟨cap,rfl,hln⟩,hb1⟩;have J:Below (w.heap.size+1) (w.alloc (.cells #[vE,vE,vE] 68)) m:=Tq hb1;have U:=q.trans (J.mono O0);have r:Hid (qc m (w.heap.size+1) (Vd l 2)):=by have h:=hln;simp at h;exact h
 obtain⟨⟨c,b,a⟩,x,u,s⟩:=rz3 J;by_cases hm:(32:UInt8)∈l
 ·by_cases D:(32:UInt8)∈Y1 l
  ·have o:Vd l 2=[O1 l,O1 (Y1 l),Y1 (Y1 l)]:=by rw[Ol 1 hm,Ol 0 D,iJ]
   rw[o]at r ⊢;have K:=r.out.1;have Y:m.cell? (aA (w.heap.size+1) 0)=some (vS (Y2 (O1 l))):=r.out.2 0 O4;have X:m.cell? (aA (w.heap.size+1) 1)=some (vS (Y2 (O1 (Y1 l)))):=r.out.2 1 O4;have p2:m.cell? (aA (w.heap.size+1) 2)=some (vS (Y2 (Y1 (Y1 l)))):=r.out.2 2 O4;have hr1:=H8 l;have hr2:=H8 (Y1 l);have hbp:=λ(t:List UInt8) (ok:Bool) z=>tH (l:=l) (t:=t) (ok:=ok) hm D z;generalize hA:O1 l=A at*;generalize hR:Y1 l=R at*;generalize hBB:O1 R=B at*;generalize hQ:Y1 R=Q at*;simp only[x_,ve]
   go_wp2_with fail
   refine(nP _ _ O0).mono ?_;rintro e k⟨⟨t,ok,rfl,z⟩,E⟩;have i:=J.trans (E.mono O0);have H:=q.trans (i.mono O0);have P:=G9 K E.size;have W:=(E.cell (by exact K)).trans Y;have V:=(E.cell (by exact K)).trans X;have q0':=past (by exact P) W;have q1':=past (by exact P) V;obtain⟨⟨c,b,a⟩,x,u,s⟩:=rz3 i;have d:w.heap.size<k.heap.size:=O0;have z0':=past (by exact d) c;have z1':=past (by exact d) b;have z2':=past (by exact d) a;have y0':=bI (by exact d) x;have y1':=bI (by exact d) u;have y2':=bI (by exact d) s;have O:=hbp t ok z;cases ok
   ·have f:=C (O.2 O4)
    go_wp2_with fail
    go_region
    all_goals
     go_wp2_with fail
     have F:=Fq k w.heap.size 0 vE vE vE _ _ _ c b a;simp only[l7]at F;have G0:=past (p:=(aW w 0)) (by simpa using d) F.1;have G1:=past (p:=(aW w 1)) (by simpa using d) F.2.1;have G2:=past (p:=(aW w 2)) (by simpa using d) F.2.2;refine o7 (v:=.tuple #[.agg #[vE,vE,vE],.bool false]) (by simp[results,results255,go_sem,G0,G1,G2]) rfl ⟨f,?_⟩
     first
      | exact((((H.setCell O4 _).setCell O4 _).setCell O4 _).alloc (by simpa using H.size) _).drew
      | exact(((H.setCell O4 _).setCell O4 _).setCell O4 _).alloc (by simpa using H.size) _
   have hQl:=z.1 rfl;have htl:t.length<=16000:=by
    have:=Gn t;rw[<- hQl]at this;omega
   have S:(⟨Y2 A,Y2 B,Y2 t⟩:M3).le 1048700:=⟨by rw[Y4];omega,by rw[Y4];omega,by rw[Y4];omega⟩;cases hk:Xe ⟨Y2 A,Y2 B,Y2 t⟩
   ·have f:=C (O.2 (by rw[hk];simp));have N:=λw'=>OL hk w' S
    go_wp2_with fail
    go_region
    all_goals
     go_wp2_with fail
     refine(N _).mono ?_;rintro e g⟨rfl,j⟩;have n:Below (w.heap.size+1) (w.alloc (.cells #[vE,vE,vE] 68)) g:=by
      refine Below.trans ?_ (j.mono X7)
      first|exact(i.alloc O0 _).drew|exact i.alloc O0 _
     have L:=q.trans (n.mono O0);obtain⟨⟨c,b,a⟩,x,u,s⟩:=rz3 n;go_wp2;refine o7 (v:=.tuple #[.agg #[vE,vE,vE],.bool false]) (by simp[results,results255,go_sem,c,b,a]) rfl ⟨f,((L.setCell O4 _).setCell O4 _).setCell O4 _⟩
   have f:Hid (a0f l (.returned (.tuple #[.agg #[vS (Y2 A),vS (Y2 B),vS (Y2 t)],.bool true]))):=⟨⟨Y2 A,Y2 B,Y2 t⟩,true,rfl,O.1 rfl hk⟩;have N:=λw'=>OL hk w' S
   go_wp2_with fail
   go_region
   all_goals
    go_wp2_with fail
    refine(N _).mono ?_;rintro e g⟨rfl,j⟩;have n:Below (w.heap.size+1) (w.alloc (.cells #[vE,vE,vE] 68)) g:=by
     refine Below.trans ?_ (j.mono X7)
     first|exact(i.alloc O0 _).drew|exact i.alloc O0 _
    have L:=q.trans (n.mono O0);have m0:g.cell? (aW k 0)=some (vS (Y2 A)):=by rw[j.cell O4];simp[go_sem]
    have m1:g.cell? (aW k 1)=some (vS (Y2 B)):=by rw[j.cell O4];simp[go_sem]
    have m2:g.cell? (aW k 2)=some (vS (Y2 t)):=by rw[j.cell O4];simp[go_sem]
    obtain⟨⟨c,b,a⟩,x,u,s⟩:=rz3 n;go_wp2;have F:=Fq g w.heap.size 0 (vS (Y2 A)) (vS (Y2 B)) (vS (Y2 t)) _ _ _ c b a;simp only[l7]at F;refine o7 (v:=.tuple #[.agg #[vS (Y2 A),vS (Y2 B),vS (Y2 t)],.bool true]) (by simp[results,results255,go_sem,F.1,F.2.1,F.2.2]) rfl ⟨f,((L.setCell O4 _).setCell O4 _).setCell O4 _⟩
  have o:Vd l 2=[O1 l,Y1 l]:=by rw[Ol 1 hm,Nh _ D]
  have f:=C (λy I e=>D (jw I e).1.2);rw[o];simp only[x_,ve];go_wp2;refine o7 (v:=.tuple #[.agg #[vE,vE,vE],.bool false]) (by simp[results,results255,go_sem,c,b,a]) rfl ⟨f,((U.setCell O4 _).setCell O4 _).setCell O4 _⟩
 have o:Vd l 2=[l]:=Nh _ hm;have f:=C (λy I e=>hm (jw I e).1.1);rw[o];simp only[x_,ve];go_wp2;refine o7 (v:=.tuple #[.agg #[vE,vE,vE],.bool false]) (by simp[results,results255,go_sem,c,b,a]) rfl ⟨f,((U.setCell O4 _).setCell O4 _).setCell O4 _⟩
def Qh(M:Int)(l:List UInt8):Bool:=Yb l&&l.all w_&&decide (val l<=M)
def iI(M:Int)(l:List UInt8):Int:=if Qh M l=true then val l else 0
theorem wL(h:Yb l=false):Qh M l=false:=by simp[Qh,h]
theorem WR(h:l.all w_=false):Qh M l=false:=by simp only[Qh,h,Fv,BI]
theorem a0S(k:Nat)(h:M<val (l.take k)):Qh M l=false:=by
 by_cases ha:l.all w_=true
 ·have:=Ko l ha k;have hd:decide (val l<=M)=false:=by simp only[Ws];omega
  simp only[Qh,hd,Fv]
 exact WR (by simpa using ha)
theorem dQ(h1:Yb l=true)(h2:l.all w_=true)(a:val l<=M):Qh M l=true:=by
 have hd:decide (val l<=M)=true:=by simpa using a
 simp only[Qh,h1,h2,hd,BJ]
theorem uF(h:Qh M l=false):iI M l=0:=by simp[iI,h]
theorem EF(h:Qh M l=true):iI M l=val l:=by simp[iI,h]
theorem QY(M:Int)(s:BY)(w:World)(hs:s.size<=1048700)(v:0<=M)(hM1:M<=100000):
 Calls prog 230 #[.string s,.int .i64 M] w λe w'=>e=.returned (.tuple #[.int .i64 (iI M s.data.toList),.bool (Qh M s.data.toList)])/\w'=w:=by
 by_cases h0:s.size=0
 ·have e0:s.toList=[]:=by
   rw[ByteArray.toList_eq];exact La.1 (by simpa using h0)
  have a:Hid (Qh M s.data.toList=false):=wL (by rw[<- ByteArray.toList_eq,e0];rfl)
  go_in
  go_wp2;go_ret2;exact⟨Cb (uF a.out).symm a.out.symm,rfl⟩
 have e0:s.toList.isEmpty=false:=by rw[ByteArray.toList_eq];exact Un s O0
 have e1:¬s.toList=[]:=λh=>by rw[h]at e0;cases e0
 have r:0<s.size:=O0;have g:=Xp s r;by_cases hl:Yb s.data.toList=true
 ·have x:=U0 hl;have hc:(s[0].toNat=48/\s.toList=[48])\/((s[0].toNat:Int)==48)=false:=by
   by_cases c:s[0].toNat=48
   ·refine .inl ⟨c,?_⟩;have h1:s[0]=48:=Zh.1 c;rw[ByteArray.toList_eq];exact((jh _).1 hl).2 (by rw[g];exact h1)
   exact .inr X7
  clear hl g;rcases hc with⟨c,d⟩|c
  all_goals
   go_in
   go_wp2;go_loop[6,21] (λn i=>∃k:Nat,k<=s.size/\i=.int .i64 k/\n=.int .i64 (val (s.data.toList.take k))/\0<=val (s.data.toList.take k)/\val (s.data.toList.take k)<=M/\Hid ((s.data.toList.take k).all w_=true)) (λ_ i=>s.size-(RowKit.intOf i).toNat);exact⟨0,I4 _,rfl,rfl,by simp[val],by simpa[val]using v,rfl⟩;obtain⟨k,hk,rfl,rfl,hv0,q,ha⟩:=hrel;by_cases j:k<s.size
   ·by_cases b:w_ s[k]=true
    ·have l:=(Ae _).1 b;have hw:=zo _ l;have u:=U0 (Jd _ s k j ha.out b);have f:Hid (val (s.data.toList.take (k+1))=val (s.data.toList.take k)*10+((s[k].toNat:Int)-48)):=by
      rw[take_snoc s k j];exact Qe _ _
     clear b;by_cases t:M<val (s.data.toList.take k)*10+((s[k].toNat:Int)-48)
     ·have a:=U0 (a0S (k+1) (by rw[f.out];exact t));go_wp2;go_ret2;exact⟨Cb (uF a.out).symm a.out.symm,rfl⟩
     go_wp2
     go_round
     exact⟨k+1,O0,by go_num,by rw[f.out],by rw[f.out];omega,by rw[f.out];omega,u⟩;exact P9
    have a:Hid (Qh M s.data.toList=false):=WR (Ye _ s k j (by simpa using b));have l:(s[k].toNat:Int)<48\/57<(s[k].toNat:Int):=by
     rcases bn (s[k].toNat:Int) 48 with h|h
     ·exact .inl h
     rcases bn 57 (s[k].toNat:Int)with o|o
     ·exact .inr o
     exact absurd ((Ae _).2 ⟨h,o⟩) b
    clear b;rcases l with b|b
    all_goals
     go_wp2
     all_goals go_ret2
     all_goals exact⟨Cb (uF a.out).symm a.out.symm,rfl⟩
   have p:=Ed _ s k O0 ha.out;have m:s.data.toList.take k=s.data.toList:=p_ X7;have a:=U0 (dQ x.out p (by rw[<- m];exact q));have y:=U0 m;clear p m;go_wp2;go_ret2;exact⟨Cb (by rw[EF a.out,y.out]) a.out.symm,rfl⟩
 have a:Hid (Qh M s.data.toList=false):=wL (by simpa using hl);have c:s[0].toNat=48/\¬s.toList=[48]:=by
  rw[ByteArray.toList_eq]at e1 ⊢;rw[jh,g]at hl;by_cases h1:s[0]=48
  ·refine⟨by rw[h1];rfl,λd=>hl ⟨e1,λ_=>d⟩⟩
  exact absurd ⟨e1,λh=>absurd h h1⟩ hl
 obtain⟨c,d⟩:=c;have hz':(!s.toList==[48])=true:=by simpa using d
 clear g hl
 go_in
 go_wp2;go_ret2;exact⟨Cb (uF a.out).symm a.out.symm,rfl⟩
end Go.Proofs.YtbgdfcmeheaiiaaGreatDoor
namespace Go.Proofs.YtbgdfcmeheaiiaaGreatDoor.T
open Proofs.Tryz Go.RowKit
theorem c15(n a b:Int)(w:World):
 Calls prog 15 #[.int .i64 n,.int .i64 a,.int .i64 b] w λe w'=>e=.returned (.bool (decide (a<=n/\n<=b)))/\w'=w:=by
 by_cases h1:a<=n<;>by_cases h2:n<=b
 all_goals
  go_in
  go_wp2
  all_goals go_ret
  all_goals exact⟨by simp[*],rfl⟩
theorem Ud{B i j:Nat}(h:i≠j):(⟨B,i,none⟩:Addr)≠⟨B,j,none⟩:=by intro e;injection e with _ e;exact h e
theorem dm(u:World)(B j:Nat)(a b x0 x1:Value)(h0:u.cell? ⟨B,j,none⟩=some x0)(h1:u.cell? ⟨B,j+1,none⟩=some x1):
 ((u.setCell ⟨B,j,none⟩ a).setCell ⟨B,j+1,none⟩ b).cell? ⟨B,j,none⟩=some a/\((u.setCell ⟨B,j,none⟩ a).setCell ⟨B,j+1,none⟩ b).cell? ⟨B,j+1,none⟩=some b:=by
 have a1:(u.setCell ⟨B,j,none⟩ a).cell? ⟨B,j+1,none⟩=some x1:=by rw[Qa _ _ _ _ (Ud O0)];exact h1
 refine⟨?_,ng _ _ _ a1⟩;rw[Qa _ _ _ _ (Ud O0)];exact ng _ _ _ h0
theorem a1t(x:F2)(w:World):
 Calls prog 197 #[.agg #[.string x.nm,.string x.tx],.agg #[.string x.nm,.string x.tx]] w λe w'=>e=.returned (.bool true)/\Bw w w':=by
 go_in
 go_wp2;go_ret;exact⟨rfl,P6.alloc O4 _⟩
theorem a3A(a o:OA)(s r:Nat)(rs:List F2)(w:World)(hl:rs.length<=1048576)(n:U5 w a rs)(m:U5 w o rs):
 Calls prog 134 #[.slice a rs.length s,.slice o rs.length r] w λe w'=>e=.returned (.bool true)/\Bw w w':=by
 obtain⟨b,off,hc⟩:=o_ n;have u:=U0 hc;clear hc n;obtain⟨b',off',h⟩:=o_ m;have t:=U0 h;clear h m
 go_in
 go_wp2;go_loopw[5] (λi wr=>∃(k:Nat),k<=rs.length/\i=.int .i64 k/\Below w.heap.size w wr) (λi _=>rs.length-(RowKit.intOf i).toNat);exact⟨0,I4 _,rfl,J4 _ _⟩;obtain⟨k,hk,rfl,c⟩:=hrel;by_cases d:k<rs.length
 ·obtain⟨ha,l,g⟩:=Zb u.out d;obtain⟨q,j,f⟩:=Zb t.out d;subst ha;subst q;have g0:=(c.cell (by exact l)).trans (g k d).1;have g1:=(c.cell (by exact l)).trans (g k d).2;have g0':=(c.cell (by exact j)).trans (f k d).1;have g1':=(c.cell (by exact j)).trans (f k d).2;generalize rs.getD k P8=x at*;clear g f
  go_wp2_with fail
  go_region_with(go_at_call 197;refine(a1t x _).mono ?_;rintro e w1⟨rfl,p⟩)
  all_goals go_wp2
  all_goals go_roundw
  all_goals first
   | exact⟨k+1,O0,by go_num,(c.drew).trans (p.mono c.size)⟩
   | (exact P9)
 go_wp2;go_ret;exact⟨rfl,c⟩
theorem c73(a b:OA)(f d:Nat)(is:List F2)(w:World)(hl:is.length<=1048576)(h:U5 w a is)(g:U5 w b is):
 Calls prog 73 #[.agg #[.slice a is.length f],.agg #[.slice b is.length d]] w λe w'=>e=.returned (.bool true)/\Bw w w':=by
 have k:=U0 h;have j:=U0 g;clear h g;have c:Bw w ((w.alloc (.cells #[vL a is.length f] 46)).alloc (.cells #[vL b is.length d] 46)):=P6.alloc O4 _
 go_in
 go_wp2_with fail
 refine(a3A a b f d is _ hl (X4 k.out c) (X4 j.out c)).mono ?_;rintro e w1⟨rfl,i⟩;go_wp2;go_ret;exact⟨rfl,P5 c i⟩
def Pn(w:World)(b n:Nat):Prop:=b<w.heap.size/\(∀j,j<n*2->∃v,w.cell? ⟨b,j,none⟩=some v)/\∀j,w.frozen? ⟨b,j,none⟩=false
theorem Pn.below{w w':World}{b n:Nat}(h:Pn w b n)(a:Bw w w'):Pn w' b n:=
 ⟨G9 h.1 a.size,λj c=>by rw[a.cell (by exact h.1)];exact h.2.1 j c,λj=>by rw[a.frozen (by exact h.1)];exact h.2.2 j⟩
theorem Pn.set{w:World}{b n j:Nat}{v:Value}(h:Pn w b n)(hj:j<n*2):Pn (w.setCell ⟨b,j,none⟩ v) b n:=by
 refine⟨by simpa using h.1,λi a=>?_,λi=>by have:=h.2.2 i;simpa using this⟩;by_cases e:i=j
 ·subst e;obtain⟨x,hx⟩:=h.2.1 i a;exact⟨v,ng _ _ _ hx⟩
 rw[Qa _ _ _ _ (Ud (Ne.symm e))];exact h.2.1 i a
